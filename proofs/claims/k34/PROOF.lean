import PyProof.Rows.All
import Wide.All
import OpenK.AllK
import Wide.FinOn
import HandS.ForMost
import HandS.Walk
import HandS.IsInst
import HandS.Style
import HandS.Defaults
import HandS.NoneIn
import PySem.Challenge.RW_reticle_k34_whole_undo_and_redo
import HandS.SetKeys
import HandS.SortRule
import HandS.SortInts
import HandS.More
import KE.KDictCopyH
import KE.KDictSum
import HandS.SetFor
import HandS.Flow
import HandS.SortKw
import HandS.ExcValue
import HandS.Deep
import KE.SortKeyHeap
import HandS.Strs
import KE.KDictList
import PyProof.Rows.TupTab
import HandS.TupLen
import HandS.Codes
import KE.SortData
import KE.KDictPairs
import HandS.TupAny
import HandS.DictComp
import PyProof.AutoSeq1
import HandS.SlotsOwn
import HandS.WordsExc
import HandS.ExcIs
import HandS.Small
import HandS.FStr
import HandS.DictTup
import KE.DatumOrd
import HandS.Conv
import HandS.Text
import HandS.Property
import PyProof.Rows.Range3
import KE.GoesEnumKw
import KE.GoesEnum
import HandS.Star
import HandS.WordsDict
import HandS.RaiseMore
import PyProof.EnumMake
import PyProof.Draws
import KE.GoesMore
import KE.KDictZip
import KE.KItemsList
import HandS.ListItems
import HandS.Zip
import HandS.CallLocal
import HandS.TupSets
import KE.KIndexOf
import HandS.Call
import KE.KExcSuper
import HandS.NestedK
import HandS.ExcInit
import HandS.ExcField
import HandS.ClsMeth
import HandS.ExcCtx
import HandS.HotCalls
import HandS.ExcInitHot
import HandS.DictEq
set_option Elab.async false
set_option linter.all false
set_option maxRecDepth 100000
set_option maxHeartbeats 4000000
namespace DL
open PySem PySem.Spec L2
inductive D where
  | non | bl (b : Bool) | int (i : Int) | str (x : Str) | ty (n : String)
  | lst (xs : List D) | tup (xs : List D)
  | dk (ks : List Key) (ds : List D) | dt (ks : List (List Key)) (ds : List D)
  | obj (cn : Str) (ns : List Str) (ds : List D)
  /-- what stands at a place -/
  | ad (a : Addr)
  /-- a tuple that is known to have no dict -/
  | ptp (xs : List D)
  /-- a tuple that is known to be no constant -/
  | etp (xs : List D)
  /-- an exception of an own class: where it is, where its dict is -/
  | exc (a x : Addr) (ns : List Str) (ds : List D)
mutual
def DR (K : PySem.W.Frag) (H : Hp) : D → V → Prop
  | .non, v => v = .non
  | .bl b, v => v = .bl b
  | .int i, v => v = .int i
  | .str x, v => v = .str x
  | .ty n, v => v = .ty n
  | .lst ds, v => ∃ a vs, v = .ref a ∧ SqL K H a vs ∧ DRs K H ds vs
  | .tup ds, v => ∃ a vs, v = .ref a ∧ SqT K H a vs ∧ DRs K H ds vs
  | .dk ks ds, v => ∃ a vs, v = .ref a ∧ Rd H a (.dK (ks.zip vs)) ∧ ks.length = vs.length ∧ DRs K H ds vs
  | .dt ks ds, v => ∃ a vs, v = .ref a ∧ Rd H a (.dT (ks.zip vs)) ∧ ks.length = vs.length ∧ DRs K H ds vs
  | .obj cn ns ds, v => ∃ a C dx vs, v = .ref a ∧ PySem.W.nsIn K mainGlobals cn = some (some (.ref C)) ∧ H a = some (.ins C dx (ns.zip vs)) ∧ ns.length = vs.length ∧ DRs K H ds vs
  | .ad a, v => v = .ref a
  | .ptp ds, v => ∃ a o vs, v = .ref a ∧ H a = some (.frz o (.tup vs)) ∧ o.dict = none ∧ DRs K H ds vs
  | .etp ds, v => ∃ a vs, v = .ref a ∧ H a = some (.tup vs) ∧ DRs K H ds vs
  | .exc a x ns ds, v => v = .ref a ∧ ∃ vs, H x = some (.xd (ns.zip vs)) ∧ ns.length = vs.length ∧ DRs K H ds vs
def DRs (K : PySem.W.Frag) (H : Hp) : List D → List V → Prop
  | [], vs => vs = []
  | d :: ds, vs => ∃ v r, vs = v :: r ∧ DR K H d v ∧ DRs K H ds r
end
theorem Same.seqT {K : PySem.W.Frag} {H H' : Hp} {a : Addr} {xs : List V} (e : Same H H') (h : SqT K H a xs) : SqT K H' a xs := by
  rcases h with (h | ⟨o, h⟩) | h
  · exact .inl (.inl (e _ _ h))
  · exact .inl (.inr ⟨o, e _ _ h⟩)
  · exact .inr h
theorem Same.rd {H H' : Hp} {a : Addr} {u : HO} (e : Same H H') (h : Rd H a u) : Rd H' a u := by
  rcases h with h | ⟨o, h⟩
  · exact .inl (e _ _ h)
  · exact .inr ⟨o, e _ _ h⟩
mutual
theorem DR.mono {K : PySem.W.Frag} {H H' : Hp} (e : Same H H') : ∀ (d : D) (v : V), DR K H d v → DR K H' d v
  | .non, v, h => h
  | .bl _, v, h => h
  | .int _, v, h => h
  | .str _, v, h => h
  | .ty _, v, h => h
  | .lst ds, v, h => by
    obtain ⟨a, vs, h1, h2, h3⟩ := h
    exact ⟨a, vs, h1, e.seq h2, DRs.mono e ds vs h3⟩
  | .tup ds, v, h => by
    obtain ⟨a, vs, h1, h2, h3⟩ := h
    exact ⟨a, vs, h1, Same.seqT e h2, DRs.mono e ds vs h3⟩
  | .dk ks ds, v, h => by
    obtain ⟨a, vs, h1, h2, h4, h3⟩ := h
    exact ⟨a, vs, h1, Same.rd e h2, h4, DRs.mono e ds vs h3⟩
  | .dt ks ds, v, h => by
    obtain ⟨a, vs, h1, h2, h4, h3⟩ := h
    exact ⟨a, vs, h1, Same.rd e h2, h4, DRs.mono e ds vs h3⟩
  | .obj cn ns ds, v, h => by
    obtain ⟨a, C, dx, vs, h1, hn, h2, h4, h3⟩ := h
    exact ⟨a, C, dx, vs, h1, hn, e _ _ h2, h4, DRs.mono e ds vs h3⟩
  | .ad _, v, h => h
  | .ptp ds, v, h => by
    obtain ⟨a, o, vs, h1, h2, h4, h3⟩ := h
    exact ⟨a, o, vs, h1, e _ _ h2, h4, DRs.mono e ds vs h3⟩
  | .etp ds, v, h => by
    obtain ⟨a, vs, h1, h2, h3⟩ := h
    exact ⟨a, vs, h1, e _ _ h2, DRs.mono e ds vs h3⟩
  | .exc a x ns ds, v, h => by
    obtain ⟨h1, vs, h2, h4, h3⟩ := h
    exact ⟨h1, vs, e _ _ h2, h4, DRs.mono e ds vs h3⟩
theorem DRs.mono {K : PySem.W.Frag} {H H' : Hp} (e : Same H H') : ∀ (ds : List D) (vs : List V), DRs K H ds vs → DRs K H' ds vs
  | [], vs, h => h
  | d :: ds, vs, h => by
    obtain ⟨v, r, h1, h2, h3⟩ := h
    exact ⟨v, r, h1, DR.mono e d v h2, DRs.mono e ds r h3⟩
end
theorem DRs.length {K : PySem.W.Frag} {H : Hp} : ∀ {ds : List D} {vs : List V}, DRs K H ds vs → ds.length = vs.length
  | [], vs, h => by cases (show vs = [] from h); rfl
  | d :: ds, vs, h => by
    obtain ⟨v, r, rfl, _, h3⟩ := h
    simp [DRs.length h3]
theorem DRs.get {K : PySem.W.Frag} {H : Hp} : ∀ {ds : List D} {vs : List V} {i : Nat} {d : D}, DRs K H ds vs → ds[i]? = some d → ∃ v, vs[i]? = some v ∧ DR K H d v
  | [], vs, i, d, h, e => by simp at e
  | d' :: ds, vs, 0, d, h, e => by
    obtain ⟨v, r, rfl, h2, h3⟩ := h
    simp at e
    subst e
    exact ⟨v, by simp, h2⟩
  | d' :: ds, vs, i + 1, d, h, e => by
    obtain ⟨v, r, rfl, h2, h3⟩ := h
    obtain ⟨w, h4, h5⟩ := DRs.get (i := i) (d := d) h3 (by simpa using e)
    exact ⟨w, by simpa using h4, h5⟩
theorem DRs.app {K : PySem.W.Frag} {H : Hp} : ∀ {ds es : List D} {vs ws : List V}, DRs K H ds vs → DRs K H es ws → DRs K H (ds ++ es) (vs ++ ws)
  | [], es, vs, ws, h, g => by cases (show vs = [] from h); exact g
  | d :: ds, es, vs, ws, h, g => by
    obtain ⟨v, r, rfl, h2, h3⟩ := h
    exact ⟨v, r ++ ws, rfl, h2, DRs.app h3 g⟩
theorem DRs.one {K : PySem.W.Frag} {H : Hp} {d : D} {v : V} (h : DR K H d v) : DRs K H [d] [v] := ⟨v, [], rfl, h, rfl⟩
theorem DRs.set {K : PySem.W.Frag} {H : Hp} {d : D} {v : V} (g : DR K H d v) : ∀ {ds : List D} {vs : List V} (i : Nat), DRs K H ds vs → DRs K H (ds.set i d) (vs.set i v)
  | [], vs, i, h => by cases (show vs = [] from h); exact rfl
  | d' :: ds, vs, 0, h => by
    obtain ⟨v', r, rfl, h2, h3⟩ := h
    exact ⟨v, r, rfl, g, h3⟩
  | d' :: ds, vs, i + 1, h => by
    obtain ⟨v', r, rfl, h2, h3⟩ := h
    exact ⟨v', r.set i v, rfl, h2, DRs.set g i h3⟩
theorem DRs.take {K : PySem.W.Frag} {H : Hp} : ∀ {ds : List D} {vs : List V} (n : Nat), DRs K H ds vs → DRs K H (ds.take n) (vs.take n)
  | ds, vs, 0, h => by simp [DRs]
  | [], vs, n + 1, h => by cases (show vs = [] from h); exact rfl
  | d :: ds, vs, n + 1, h => by
    obtain ⟨v, r, rfl, h2, h3⟩ := h
    exact ⟨v, r.take n, rfl, h2, DRs.take n h3⟩
theorem DRs.drop {K : PySem.W.Frag} {H : Hp} : ∀ {ds : List D} {vs : List V} (n : Nat), DRs K H ds vs → DRs K H (ds.drop n) (vs.drop n)
  | ds, vs, 0, h => by simpa using h
  | [], vs, n + 1, h => by cases (show vs = [] from h); exact rfl
  | d :: ds, vs, n + 1, h => by
    obtain ⟨v, r, rfl, h2, h3⟩ := h
    exact DRs.drop (ds := ds) (vs := r) n h3
theorem DRs.ints {K : PySem.W.Frag} {H : Hp} : ∀ {ns : List Int} {vs : List V}, DRs K H (ns.map D.int) vs → vs = ns.map V.int
  | [], vs, h => h
  | n :: ns, vs, h => by
    obtain ⟨v, r, rfl, h2, h3⟩ := h
    cases (show v = .int n from h2)
    rw [DRs.ints h3]; rfl
theorem DRs.ofInts {K : PySem.W.Frag} {H : Hp} : ∀ (ns : List Int), DRs K H (ns.map D.int) (ns.map V.int)
  | [] => rfl
  | n :: ns => ⟨.int n, ns.map V.int, rfl, rfl, DRs.ofInts ns⟩
theorem DRs.bls {K : PySem.W.Frag} {H : Hp} : ∀ {ns : List Bool} {vs : List V}, DRs K H (ns.map D.bl) vs → vs = ns.map V.bl
  | [], vs, h => h
  | n :: ns, vs, h => by
    obtain ⟨v, r, rfl, h2, h3⟩ := h
    cases (show v = .bl n from h2)
    rw [DRs.bls h3]; rfl
/-- what may be nobody else's -/
def NT : HO → Prop
  | .tup _ => False
  | _ => True
structure JH (B0 B H0 H : Hp) : Prop where
  s0 : Same B0 H0
  sh : Same H0 H
  sB : Same B H
  fr : ∀ a o, B a = some o → NT o → B0 a = none → H0 a = none
theorem JH.refl {H0 H : Hp} (h : Same H0 H) : JH H0 H H0 H := ⟨Same.refl _, h, Same.refl _, fun _ _ _ _ h => h⟩
theorem JH.trans {B0 B H0 H G0 G : Hp} (a : JH B0 B H0 H) (b : JH H0 H G0 G) : JH B0 B G0 G :=
  ⟨a.s0.trans b.s0, b.sh, a.sB.trans b.sB, fun x o h n h' => b.fr x o (a.sB x o h) n (a.fr x o h n h')⟩
/-- a new thing that is shared at once -/
theorem JH.new {H0 H : Hp} {p : Addr} {o : HO} (h : Same H0 H) (n : H p = none) : JH H0 H (upd H0 p o) (upd H p o) := by
  have n0 : H0 p = none := h.free n
  refine ⟨fun b u e => ?_, fun b u e => ?_, fun b u e => ?_, fun a u e _ e' => ?_⟩
  · rw [upd_ne (ne_of_none e n0)]; exact e
  · by_cases hb : b = p
    · subst hb; rw [upd_same] at e ⊢; exact e
    · rw [upd_ne hb] at e ⊢; exact h b u e
  · rw [upd_ne (ne_of_none e n)]; exact e
  · rw [upd_ne (ne_of_none e n)]; exact e'
/-- a new thing that is nobody else's -/
theorem JH.own {H0 H : Hp} {p : Addr} {o : HO} (h : Same H0 H) (n : H p = none) : JH H0 H H0 (upd H p o) := by
  have n0 : H0 p = none := h.free n
  refine ⟨Same.refl _, fun b u e => ?_, fun b u e => ?_, fun a u e _ e' => e'⟩
  · rw [upd_ne (ne_of_none e n0)]; exact h b u e
  · rw [upd_ne (ne_of_none e n)]; exact e
/-- what is nobody else's: a list, a dict -/
inductive OC where
  | lst (ds : List D) | dk (ks : List Key) (ds : List D) | dt (ks : List (List Key)) (ds : List D)
  /-- .. while a loop walks it -/
  | fk (ks : List Key) (ds : List D) | ft (ks : List (List Key)) (ds : List D)
  /-- an instance of a class of the text -/
  | ins (cn : Str) (ns : List Str) (ds : List D)
def OCR (K : PySem.W.Frag) (H0 : Hp) : OC → HO → Prop
  | .lst ds, o => ∃ vs, o = .lst vs ∧ DRs K H0 ds vs
  | .dk ks ds, o => ∃ vs, o = .dK (ks.zip vs) ∧ ks.length = vs.length ∧ DRs K H0 ds vs
  | .dt ks ds, o => ∃ vs, o = .dT (ks.zip vs) ∧ ks.length = vs.length ∧ DRs K H0 ds vs
  | .fk ks ds, o => ∃ vs od, o = .frz od (.dK (ks.zip vs)) ∧ ks.length = vs.length ∧ DRs K H0 ds vs
  | .ft ks ds, o => ∃ vs od, o = .frz od (.dT (ks.zip vs)) ∧ ks.length = vs.length ∧ DRs K H0 ds vs
  | .ins cn ns ds, o => ∃ vs C dx, o = .ins C dx (ns.zip vs) ∧ PySem.W.nsIn K mainGlobals cn = some (some (.ref C)) ∧ ns.length = vs.length ∧ DRs K H0 ds vs
theorem OCR.nt {K : PySem.W.Frag} {H0 : Hp} : ∀ {c : OC} {o : HO}, OCR K H0 c o → NT o
  | .lst _, _, ⟨vs, h1, h2⟩ => by subst h1; trivial
  | .dk _ _, _, ⟨vs, h1, h3, h2⟩ => by subst h1; trivial
  | .dt _ _, _, ⟨vs, h1, h3, h2⟩ => by subst h1; trivial
  | .fk _ _, _, ⟨vs, od, h1, h3, h2⟩ => by subst h1; trivial
  | .ft _ _, _, ⟨vs, od, h1, h3, h2⟩ => by subst h1; trivial
  | .ins _ _ _, _, ⟨vs, C, dx, h1, hn, h3, h2⟩ => by subst h1; trivial
theorem OCR.mono {K : PySem.W.Frag} {H0 H0' : Hp} (e : Same H0 H0') : ∀ {c : OC} {o : HO}, OCR K H0 c o → OCR K H0' c o
  | .lst _, _, ⟨vs, h1, h2⟩ => ⟨vs, h1, DRs.mono e _ _ h2⟩
  | .dk _ _, _, ⟨vs, h1, h3, h2⟩ => ⟨vs, h1, h3, DRs.mono e _ _ h2⟩
  | .dt _ _, _, ⟨vs, h1, h3, h2⟩ => ⟨vs, h1, h3, DRs.mono e _ _ h2⟩
  | .fk _ _, _, ⟨vs, od, h1, h3, h2⟩ => ⟨vs, od, h1, h3, DRs.mono e _ _ h2⟩
  | .ft _ _, _, ⟨vs, od, h1, h3, h2⟩ => ⟨vs, od, h1, h3, DRs.mono e _ _ h2⟩
  | .ins _ _ _, _, ⟨vs, C, dx, h1, hn, h3, h2⟩ => ⟨vs, C, dx, h1, hn, h3, DRs.mono e _ _ h2⟩
def OC.d : OC → D
  | .lst ds => .lst ds
  | .dk ks ds => .dk ks ds
  | .dt ks ds => .dt ks ds
  | .fk ks ds => .dk ks ds
  | .ft ks ds => .dt ks ds
  | .ins cn ns ds => .obj cn ns ds
theorem OCR.dr {K : PySem.W.Frag} {H0 : Hp} {c : OC} {a : Addr} {o : HO} (n : H0 a = none) (h : OCR K H0 c o) : DR K (upd H0 a o) c.d (.ref a) := by
  have s0 : Same H0 (upd H0 a o) := fun b u e => by
    rw [upd_ne (fun z => by subst z; rw [n] at e; cases e)]; exact e
  cases c with
  | lst ds => obtain ⟨vs, rfl, r⟩ := h; exact ⟨a, vs, rfl, SqL.of upd_same, DRs.mono s0 _ _ r⟩
  | dk ks ds => obtain ⟨vs, rfl, l, r⟩ := h; exact ⟨a, vs, rfl, .inl upd_same, l, DRs.mono s0 _ _ r⟩
  | dt ks ds => obtain ⟨vs, rfl, l, r⟩ := h; exact ⟨a, vs, rfl, .inl upd_same, l, DRs.mono s0 _ _ r⟩
  | fk ks ds => obtain ⟨vs, od, rfl, l, r⟩ := h; exact ⟨a, vs, rfl, .inr ⟨od, upd_same⟩, l, DRs.mono s0 _ _ r⟩
  | ft ks ds => obtain ⟨vs, od, rfl, l, r⟩ := h; exact ⟨a, vs, rfl, .inr ⟨od, upd_same⟩, l, DRs.mono s0 _ _ r⟩
  | ins cn ns ds => obtain ⟨vs, C, dx, rfl, hn, l, r⟩ := h; exact ⟨a, C, dx, vs, rfl, hn, upd_same, l, DRs.mono s0 _ _ r⟩
inductive Sl where
  | no | sh (d : D) | ow (c : OC)
  /-- what is at d, and things of its own at places that are told -/
  | ox (cs : List (Addr × OC)) (d : D)
/-- a thing of its own stands at a place -/
structure CellR (K : PySem.W.Frag) (B H0 H : Hp) (a : Addr) (c : OC) : Prop where
  ex : ∃ o, H a = some o ∧ H0 a = none ∧ B a = none ∧ OCR K H0 c o
def SlR (K : PySem.W.Frag) (B H0 H : Hp) : Sl → Option V → Prop
  | .no, _ => True
  | .sh d, ov => ∃ v, ov = some v ∧ DR K H0 d v
  | .ow c, ov => ∃ a o, ov = some (.ref a) ∧ H a = some o ∧ H0 a = none ∧ B a = none ∧ OCR K H0 c o
  | .ox cs d, ov => (∃ v, ov = some v ∧ DR K H0 d v) ∧ (∀ p ∈ cs, CellR K B H0 H p.1 p.2) ∧ (cs.map (·.1)).Nodup
/-- the places of what a slot owns -/
def Owns : Sl → Option V → Addr → Prop
  | .ow _, ov, a => ov = some (.ref a)
  | .ox cs _, _, a => a ∈ cs.map (·.1)
  | _, _, _ => False
abbrev En := List Sl
structure J (K : PySem.W.Frag) (B0 B : Hp) (σ : St) (H0 H : Hp) (ρ : En) : Prop where
  hp : JH B0 B H0 H
  len : σ.length = ρ.length
  sl : ∀ (i : Nat) s ov, ρ[i]? = some s → σ[i]? = some ov → SlR K B H0 H s ov
  dis : ∀ (i j : Nat) s s' ov ov' a, ρ[i]? = some s → ρ[j]? = some s' → σ[i]? = some ov → σ[j]? = some ov' → Owns s ov a → Owns s' ov' a → i = j
section
variable {K : PySem.W.Frag} {B0 B H0 H H0' H' : Hp} {σ σ' : St} {ρ ρ' : En}
theorem J.get (j : J K B0 B σ H0 H ρ) {i : Nat} {s : Sl} (h : ρ[i]? = some s) : ∃ ov, σ[i]? = some ov ∧ SlR K B H0 H s ov := by
  have hi : i < σ.length := by
    have := (List.getElem?_eq_some_iff.mp h).1
    rw [j.len]; exact this
  exact ⟨σ[i], by simp [hi], j.sl i s σ[i] h (by simp [hi])⟩
theorem CellR.grow (g : JH H0 H H0' H') {a : Addr} {c : OC} (h : CellR K B H0 H a c) : CellR K B H0' H' a c := by
  obtain ⟨o, h2, h3, h4, h5⟩ := h
  exact ⟨o, g.sB _ _ h2, g.fr _ _ h2 h5.nt h3, h4, h5.mono g.s0⟩
theorem SlR.grow (g : JH H0 H H0' H') {s : Sl} {ov : Option V} (h : SlR K B H0 H s ov) : SlR K B H0' H' s ov := by
  cases s with
  | no => trivial
  | sh d => obtain ⟨v, h1, h2⟩ := h; exact ⟨v, h1, DR.mono g.s0 _ _ h2⟩
  | ow c => obtain ⟨a, o, h1, h2, h3, h4, h5⟩ := h; exact ⟨a, o, h1, g.sB _ _ h2, g.fr _ _ h2 h5.nt h3, h4, h5.mono g.s0⟩
  | ox cs d => obtain ⟨⟨v, h1, h2⟩, h3, h4⟩ := h; exact ⟨⟨v, h1, DR.mono g.s0 _ _ h2⟩, fun p hp => (h3 p hp).grow g, h4⟩
theorem J.grow (j : J K B0 B σ H0 H ρ) (g : JH H0 H H0' H') : J K B0 B σ H0' H' ρ :=
  ⟨j.hp.trans g, j.len, fun i s ov h1 h2 => (j.sl i s ov h1 h2).grow g, j.dis⟩
theorem J.same (j : J K B0 B σ H0 H ρ) : Same H0 H := j.hp.sh
theorem set_get {α : Type} {l : List α} {i j : Nat} {x y : α} (h : (l.set i x)[j]? = some y) : (j = i ∧ y = x ∧ i < l.length) ∨ (j ≠ i ∧ l[j]? = some y) := by
  by_cases e : i = j
  · subst e
    by_cases hl : i < l.length
    · rw [List.getElem?_set_self hl] at h
      exact .inl ⟨rfl, (Option.some.inj h).symm, hl⟩
    · rw [List.getElem?_eq_none (by simpa using hl)] at h; cases h
  · rw [List.getElem?_set_ne e] at h
    exact .inr ⟨fun z => e z.symm, h⟩
/-- what a slot owns is there, not shared, and new since the base -/
theorem J.own (j : J K B0 B σ H0 H ρ) {i : Nat} {s : Sl} {ov : Option V} {a : Addr} (h : ρ[i]? = some s) (hσ : σ[i]? = some ov) (w : Owns s ov a) : ∃ o, H a = some o ∧ H0 a = none ∧ B a = none := by
  have r := j.sl i s ov h hσ
  cases s with
  | no => cases w
  | sh d => cases w
  | ow c =>
    obtain ⟨b, o, e, h2, h3, h4, _⟩ := r
    cases e.symm.trans (show ov = _ from w)
    exact ⟨o, h2, h3, h4⟩
  | ox cs d =>
    obtain ⟨p, hp, rfl⟩ := List.mem_map.mp (show a ∈ cs.map (·.1) from w)
    obtain ⟨o, h2, h3, h4, _⟩ := (r.2.1 p hp).ex
    exact ⟨o, h2, h3, h4⟩
/-- a slot is changed: the heap stays; what it owns then it owned before -/
theorem J.setTo (j : J K B0 B σ H0 H ρ) {i : Nat} {s : Sl} {ov : Option V} (r : SlR K B H0 H s ov) (n : ∀ a, Owns s ov a → ∀ k s' ov', k ≠ i → ρ[k]? = some s' → σ[k]? = some ov' → ¬ Owns s' ov' a) : J K B0 B (σ.set i ov) H0 H (ρ.set i s) := by
  refine ⟨j.hp, by simp [j.len], fun k s1 ov1 h1 h2 => ?_, fun k l s1 s2 o1 o2 a h1 h2 h3 h4 w1 w2 => ?_⟩
  · rcases set_get h1 with ⟨rfl, rfl, _⟩ | ⟨ne, h1⟩
    · rcases set_get h2 with ⟨_, rfl, _⟩ | ⟨ne, _⟩
      · exact r
      · exact absurd rfl ne
    · rcases set_get h2 with ⟨e, _, _⟩ | ⟨_, h2⟩
      · exact absurd e ne
      · exact j.sl k s1 ov1 h1 h2
  · rcases set_get h1 with ⟨e1, q1, _⟩ | ⟨n1, g1⟩
    · rcases set_get h2 with ⟨e2, _, _⟩ | ⟨n2, g2⟩
      · rw [e1, e2]
      · rcases set_get h3 with ⟨_, q3, _⟩ | ⟨n3, _⟩
        · rw [q1, q3] at w1
          rw [List.getElem?_set_ne (Ne.symm n2)] at h4
          exact absurd w2 (n a w1 l s2 o2 n2 g2 h4)
        · exact absurd e1 n3
    · rcases set_get h2 with ⟨e2, q2, _⟩ | ⟨n2, g2⟩
      · rcases set_get h4 with ⟨_, q4, _⟩ | ⟨n4, _⟩
        · rw [q2, q4] at w2
          rw [List.getElem?_set_ne (Ne.symm n1)] at h3
          exact absurd w1 (n a w2 k s1 o1 n1 g1 h3)
        · exact absurd e2 n4
      · rw [List.getElem?_set_ne (Ne.symm n1)] at h3
        rw [List.getElem?_set_ne (Ne.symm n2)] at h4
        exact j.dis k l s1 s2 o1 o2 a g1 g2 h3 h4 w1 w2
/-- .. and its value too stays -/
theorem J.setSl (j : J K B0 B σ H0 H ρ) {i : Nat} {s : Sl} {ov : Option V} (hσ : σ[i]? = some ov) (r : SlR K B H0 H s ov) (n : ∀ a, Owns s ov a → ∀ k s' ov', k ≠ i → ρ[k]? = some s' → σ[k]? = some ov' → ¬ Owns s' ov' a) : J K B0 B σ H0 H (ρ.set i s) := by
  have q := j.setTo (i := i) r n
  have e : σ.set i ov = σ := by
    refine List.ext_getElem? fun k => ?_
    by_cases hk : i = k
    · subst hk
      rw [hσ, List.getElem?_set_self (List.getElem?_eq_some_iff.mp hσ).1]
    · rw [List.getElem?_set_ne hk]
  rwa [e] at q
theorem J.sub (j : J K B0 B σ H0 H ρ) {i : Nat} {s s0 : Sl} {ov : Option V} (h : ρ[i]? = some s0) (hσ : σ[i]? = some ov) (w : ∀ a, Owns s ov a → Owns s0 ov a) : ∀ a, Owns s ov a → ∀ k s' ov', k ≠ i → ρ[k]? = some s' → σ[k]? = some ov' → ¬ Owns s' ov' a :=
  fun a w1 k s' ov' ne h1 h2 w2 => ne (j.dis k i s' s0 ov' ov a h1 h h2 hσ w2 (w a w1))
theorem Owns.none {s : Sl} {ov : Option V} (h : s = .no ∨ ∃ d, s = .sh d) (a : Addr) : ¬ Owns s ov a := by
  rcases h with rfl | ⟨d, rfl⟩ <;> exact fun w => w
/-- a slot gets a value that is shared -/
theorem J.setSh (j : J K B0 B σ H0 H ρ) {i : Nat} {d : D} {v : V} (h : DR K H0 d v) : J K B0 B (σ.set i (some v)) H0 H (ρ.set i (.sh d)) :=
  j.setTo (s := .sh d) ⟨v, rfl, h⟩ fun a w => w.elim
/-- a slot is forgotten -/
theorem J.drop (j : J K B0 B σ H0 H ρ) (i : Nat) : J K B0 B σ H0 H (ρ.set i .no) := by
  by_cases hi : i < σ.length
  · exact j.setSl (s := .no) (ov := σ[i]) (by simp [hi]) True.intro fun a w => w.elim
  · have e : ρ.set i .no = ρ := List.set_eq_of_length_le (by rw [← j.len]; omega)
    rw [e]; exact j
/-- a slot gets a new thing of its own -/
theorem J.setOwn (j : J K B0 B σ H0 H ρ) {i : Nat} {c : OC} {a : Addr} {o : HO} (h : H a = some o) (h0 : H0 a = none) (hB : B a = none) (n : ∀ (k : Nat) s ov, k ≠ i → ρ[k]? = some s → σ[k]? = some ov → ¬ Owns s ov a) (r : OCR K H0 c o) :
    J K B0 B (σ.set i (some (.ref a))) H0 H (ρ.set i (.ow c)) :=
  j.setTo (s := .ow c) ⟨a, o, rfl, h, h0, hB, r⟩ fun b w k s' ov' ne h1 h2 w2 => by
    cases (show some (V.ref a) = some (.ref b) from w)
    exact n k s' ov' ne h1 h2 w2
theorem upd_keep {H : Hp} {a b : Addr} {o u : HO} (h : H b = some u) (n : b ≠ a) : upd H a o b = some u := by rw [upd_ne n]; exact h
theorem CellR.keep {a b : Addr} {c : OC} {o : HO} (h : CellR K B H0 H b c) (n : b ≠ a) : CellR K B H0 (upd H a o) b c := by
  obtain ⟨u, h1, h2⟩ := h
  exact ⟨u, upd_keep h1 n, h2⟩
/-- what slot i owns at a is changed -/
theorem J.writeAt (j : J K B0 B σ H0 H ρ) {i : Nat} {s s' : Sl} {ov : Option V} {a : Addr} {o : HO} (h : ρ[i]? = some s) (hσ : σ[i]? = some ov) (w : Owns s ov a) (ws : ∀ b, Owns s' ov b ↔ Owns s ov b) (r : SlR K B H0 (upd H a o) s' ov) : J K B0 B σ H0 (upd H a o) (ρ.set i s') := by
  obtain ⟨o', h1, h2, h3⟩ := j.own h hσ w
  have ne : ∀ b u, H0 b = some u → b ≠ a := fun b u e z => by subst z; rw [h2] at e; cases e
  have neB : ∀ b u, B b = some u → b ≠ a := fun b u e z => by subst z; rw [h3] at e; cases e
  refine ⟨⟨j.hp.s0, fun b u e => upd_keep (j.hp.sh b u e) (ne b u e), fun b u e => upd_keep (j.hp.sB b u e) (neB b u e), j.hp.fr⟩, by simp [j.len], fun k s1 ov1 g1 g2 => ?_, fun k l s1 s2 o1 o2 b g1 g2 g3 g4 w1 w2 => ?_⟩
  · rcases set_get g1 with ⟨rfl, rfl, _⟩ | ⟨nk, g1⟩
    · rw [hσ] at g2; cases g2
      exact r
    · have q := j.sl k s1 ov1 g1 g2
      have nb : ∀ b, Owns s1 ov1 b → b ≠ a := fun b w1 z => by
        subst z
        exact nk (j.dis k i s1 s ov1 ov b g1 h g2 hσ w1 w)
      cases s1 with
      | no => trivial
      | sh d => exact q
      | ow c2 =>
        obtain ⟨b, ob, f1, f2, f3, f4, f5⟩ := q
        exact ⟨b, ob, f1, upd_keep f2 (nb b f1), f3, f4, f5⟩
      | ox cs d =>
        obtain ⟨q1, q2, q3⟩ := q
        exact ⟨q1, fun p hp => (q2 p hp).keep (nb p.1 (List.mem_map.mpr ⟨p, hp, rfl⟩)), q3⟩
  · have p : ∀ {m : Nat} {s3 : Sl} {o3 : Option V}, (ρ.set i s')[m]? = some s3 → σ[m]? = some o3 → Owns s3 o3 b → ∃ s4, ρ[m]? = some s4 ∧ Owns s4 o3 b := fun {m s3 o3} g gσ w3 => by
      rcases set_get g with ⟨rfl, rfl, _⟩ | ⟨_, g⟩
      · rw [hσ] at gσ; cases gσ
        exact ⟨s, h, (ws b).mp w3⟩
      · exact ⟨s3, g, w3⟩
    obtain ⟨s5, f1, f2⟩ := p g1 g3 w1
    obtain ⟨s6, f3, f4⟩ := p g2 g4 w2
    exact j.dis k l s5 s6 o1 o2 b f1 f3 g3 g4 f2 f4
/-- what a slot owns is changed -/
theorem J.write (j : J K B0 B σ H0 H ρ) {i : Nat} {c c' : OC} {a : Addr} {o : HO} (h : ρ[i]? = some (.ow c)) (hσ : σ[i]? = some (some (.ref a))) (r : OCR K H0 c' o) : J K B0 B σ H0 (upd H a o) (ρ.set i (.ow c')) := by
  obtain ⟨o', h1, h2, h3⟩ := j.own h hσ (show Owns (.ow c) (some (.ref a)) a from rfl)
  exact j.writeAt h hσ rfl (fun b => Iff.rfl) ⟨a, o, rfl, upd_same, h2, h3, r⟩
/-- what a slot owns at a place is given to all -/
theorem J.shareAt (j : J K B0 B σ H0 H ρ) {i : Nat} {s : Sl} {ov : Option V} {a : Addr} {c : OC} {o : HO} (h : ρ[i]? = some s) (hσ : σ[i]? = some ov) (w : Owns s ov a) (h1 : H a = some o) (h4 : OCR K H0 c o) {s' : Sl}
    (ws : ∀ b, Owns s' ov b → Owns s ov b ∧ b ≠ a) (r : DR K (upd H0 a o) c.d (.ref a) → SlR K B (upd H0 a o) H s' ov) : J K B0 B σ (upd H0 a o) H (ρ.set i s') ∧ Same H0 (upd H0 a o) := by
  obtain ⟨o', h1', h2, h3⟩ := j.own h hσ w
  have ne : ∀ b u, H0 b = some u → b ≠ a := fun b u e z => by subst z; rw [h2] at e; cases e
  have s0 : Same H0 (upd H0 a o) := fun b u e => upd_keep e (ne b u e)
  have dr : DR K (upd H0 a o) c.d (.ref a) := by
    exact OCR.dr h2 h4
  refine ⟨⟨⟨j.hp.s0.trans s0, fun b u e => ?_, j.hp.sB, fun b u e nt e' => ?_⟩, by simp [j.len], fun k s1 ov1 g1 g2 => ?_, fun k l s1 s2 o1 o2 b g1 g2 g3 g4 w1 w2 => ?_⟩, s0⟩
  · by_cases hb : b = a
    · subst hb; rw [upd_same] at e; cases e; exact h1
    · rw [upd_ne hb] at e; exact j.hp.sh b u e
  · rw [upd_ne (fun z => by subst z; rw [h3] at e; cases e)]; exact j.hp.fr b u e nt e'
  · rcases set_get g1 with ⟨rfl, rfl, _⟩ | ⟨nk, g1⟩
    · rw [hσ] at g2; cases g2
      exact r dr
    · have q := j.sl k s1 ov1 g1 g2
      have nb : ∀ b, Owns s1 ov1 b → b ≠ a := fun b w1 z => by
        subst z
        exact nk (j.dis k i s1 s ov1 ov b g1 h g2 hσ w1 w)
      cases s1 with
      | no => trivial
      | sh d => obtain ⟨v, f1, f2⟩ := q; exact ⟨v, f1, DR.mono s0 _ _ f2⟩
      | ow c2 =>
        obtain ⟨b, ob, f1, f2, f3, f4, f5⟩ := q
        exact ⟨b, ob, f1, f2, by rw [upd_ne (nb b f1)]; exact f3, f4, f5.mono s0⟩
      | ox cs d =>
        obtain ⟨⟨v, f1, f2⟩, q2, q3⟩ := q
        refine ⟨⟨v, f1, DR.mono s0 _ _ f2⟩, fun p hp => ?_, q3⟩
        obtain ⟨ob, f2, f3, f4, f5⟩ := (q2 p hp).ex
        exact ⟨ob, f2, by rw [upd_ne (nb p.1 (List.mem_map.mpr ⟨p, hp, rfl⟩))]; exact f3, f4, f5.mono s0⟩
  · have p : ∀ {m : Nat} {s3 : Sl} {o3 : Option V}, (ρ.set i s')[m]? = some s3 → σ[m]? = some o3 → Owns s3 o3 b → ∃ s4, ρ[m]? = some s4 ∧ Owns s4 o3 b := fun {m s3 o3} g gσ w3 => by
      rcases set_get g with ⟨rfl, rfl, _⟩ | ⟨_, g⟩
      · rw [hσ] at gσ; cases gσ
        exact ⟨s, h, (ws b w3).1⟩
      · exact ⟨s3, g, w3⟩
    obtain ⟨s5, f1, f2⟩ := p g1 g3 w1
    obtain ⟨s6, f3, f4⟩ := p g2 g4 w2
    exact j.dis k l s5 s6 o1 o2 b f1 f3 g3 g4 f2 f4
/-- what a slot owns is given to all -/
theorem J.share (j : J K B0 B σ H0 H ρ) {i : Nat} {c : OC} (h : ρ[i]? = some (.ow c)) : ∃ H0', J K B0 B σ H0' H (ρ.set i (.sh c.d)) ∧ Same H0 H0' := by
  obtain ⟨ov, e1, a, o, e2, h1, h2, h3, h4⟩ := j.get h
  subst e2
  exact ⟨_, j.shareAt (s' := .sh c.d) h e1 rfl h1 h4 (fun b w => w.elim) fun r => ⟨_, rfl, r⟩⟩
/-- the shared part as it is now for a new base -/
theorem J.rebase (j : J K B0 B σ H0 H ρ) : J K H0 B σ H0 H ρ := ⟨⟨Same.refl _, j.hp.sh, j.hp.sB, fun _ _ _ _ h => h⟩, j.len, j.sl, j.dis⟩
theorem J.unbase (j : J K B0 B σ H0 H ρ) (j' : J K H0 B σ' H0' H' ρ') : J K B0 B σ' H0' H' ρ' :=
  ⟨⟨j.hp.s0.trans j'.hp.s0, j'.hp.sh, j'.hp.sB, fun a o h n h' => j'.hp.fr a o h n (j.hp.fr a o h n h')⟩, j'.len, j'.sl, j'.dis⟩
theorem CellR.new {a : Addr} {c : OC} {o : HO} (h : H a = some o) (h0 : H0 a = none) (hB : B a = none) (r : OCR K H0 c o) : CellR K B H0 H a c := ⟨o, h, h0, hB, r⟩
/-- the place of what a slot owns is told -/
theorem J.tell (j : J K B0 B σ H0 H ρ) {i : Nat} {c : OC} (h : ρ[i]? = some (.ow c)) : ∃ a, J K B0 B σ H0 H (ρ.set i (.ox [(a, c)] (.ad a))) := by
  obtain ⟨ov, e1, a, o, rfl, h1, h2, h3, h4⟩ := j.get h
  exact ⟨a, j.setSl (s := .ox [(a, c)] (.ad a)) e1 ⟨⟨_, rfl, rfl⟩, fun p hp => by rw [List.mem_singleton] at hp; subst hp; exact .new h1 h2 h3 h4, by simp⟩ (j.sub h e1 fun b w => by
    have e : b = a := by simpa [Owns] using w
    subst e; rfl)⟩
theorem J.cell (j : J K B0 B σ H0 H ρ) {i : Nat} {cs : List (Addr × OC)} {d : D} (h : ρ[i]? = some (.ox cs d)) {a : Addr} {c : OC} (m : (a, c) ∈ cs) : ∃ o, H a = some o ∧ H0 a = none ∧ B a = none ∧ OCR K H0 c o := by
  obtain ⟨ov, e1, h1, h2, h3⟩ := j.get h
  exact (h2 _ m).ex
/-- one of the places anew -/
def putC (cs : List (Addr × OC)) (a : Addr) (c : OC) : List (Addr × OC) := cs.map fun p => if p.1 = a then (a, c) else p
theorem putC_fst (cs : List (Addr × OC)) (a : Addr) (c : OC) : (putC cs a c).map (·.1) = cs.map (·.1) := by
  unfold putC
  rw [List.map_map]
  refine List.map_congr_left fun p _ => ?_
  show (if p.1 = a then (a, c) else p).1 = p.1
  split
  · rename_i h; exact h.symm
  · rfl
theorem J.put (j : J K B0 B σ H0 H ρ) {i : Nat} {cs : List (Addr × OC)} {d : D} (h : ρ[i]? = some (.ox cs d)) {a : Addr} {c c' : OC} {o : HO} (m : (a, c) ∈ cs) (r : OCR K H0 c' o) : J K B0 B σ H0 (upd H a o) (ρ.set i (.ox (putC cs a c') d)) := by
  obtain ⟨ov, e1, h1, h2, h3⟩ := j.get h
  obtain ⟨o', f1, f2, f3, f4⟩ := j.cell h m
  refine j.writeAt h e1 (List.mem_map.mpr ⟨_, m, rfl⟩) (fun b => by simp only [Owns, putC_fst]) ⟨h1, fun p hp => ?_, by rw [putC_fst]; exact h3⟩
  obtain ⟨q, hq, e⟩ := List.mem_map.mp hp
  by_cases hqa : q.1 = a
  · rw [if_pos hqa] at e
    subst e
    exact .new upd_same f2 f3 r
  · rw [if_neg hqa] at e
    subst e
    exact (h2 q hq).keep hqa
/-- a new thing more -/
theorem J.more (j : J K B0 B σ H0 H ρ) (g : JH H0 H H0' H') {i : Nat} {cs : List (Addr × OC)} {d : D} {a : Addr} {c : OC} {o : HO} (h : ρ[i]? = some (.ox cs d)) (h1 : H' a = some o) (h0 : H0' a = none) (n : H a = none) (r : OCR K H0' c o) : J K B0 B σ H0' H' (ρ.set i (.ox (cs ++ [(a, c)]) d)) := by
  obtain ⟨ov, e1, f1, f2, f3⟩ := (j.grow g).get h
  have nin : ∀ k s' ov', ρ[k]? = some s' → σ[k]? = some ov' → ¬ Owns s' ov' a := fun k s' ov' h1 h2 w => by
    obtain ⟨o, e, _⟩ := j.own h1 h2 w
    rw [n] at e; cases e
  have nm : a ∉ cs.map (·.1) := fun w => nin i _ ov h e1 w
  refine (j.grow g).setSl (s := .ox (cs ++ [(a, c)]) d) e1 ⟨f1, fun p hp => ?_, ?_⟩ fun b w k s' ov' ne g1 g2 w2 => ?_
  · rcases List.mem_append.mp hp with hp | hp
    · exact f2 p hp
    · rw [List.mem_singleton] at hp; subst hp
      exact .new h1 h0 (j.hp.sB.free n) r
  · rw [List.map_append, List.nodup_append]
    refine ⟨f3, by simp, fun x hx y hy => ?_⟩
    have : y = a := by simpa using hy
    subst this
    exact fun e => nm (e ▸ hx)
  · have w' : b ∈ cs.map (·.1) ∨ b = a := by
      have : b ∈ (cs ++ [(a, c)]).map (·.1) := w
      rw [List.map_append, List.mem_append] at this
      simpa using this
    rcases w' with w' | rfl
    · exact ne (j.dis k i s' _ ov' ov b g1 h g2 e1 w2 w')
    · exact nin k s' ov' g1 g2 w2
end
end DL
namespace DL
open PySem PySem.Spec L2
def RE (X : Cx) (e : Expr) : TE := fun σ H Q => ∃ t, PE X e t ∧ t σ H Q
def RT (X : Cx) (e : Expr) : TT := fun σ H Q => ∃ t, PT X e t ∧ t σ H Q
def RW (X : Cx) (e : Expr) : TT := fun σ H Q => ∃ t, PW X e t ∧ t σ H Q
def RA (X : Cx) (es : List Expr) : TA := fun σ H Q => ∃ t, PA X es t ∧ t σ H Q
def RS (X : Cx) (st : Stmt) : TS := fun D σ H => ∃ t, PS X st t ∧ t D σ H
def RSs (X : Cx) (sts : List Stmt) : TS := fun D σ H => ∃ t, PSs X sts t ∧ t D σ H
def RI (X : Cx) (tg iter : Expr) : TI := fun σ H R => ∃ t, PI X tg iter t ∧ t σ H R
def RG (X : Cx) (tg : Expr) : TG := fun v σ H Q => ∃ t, PG X tg t ∧ t v σ H Q
def RGs (X : Cx) (tg : List Expr) : TGs := fun vs σ H Q => ∃ t, PGs X tg t ∧ t vs σ H Q
section
variable {X : Cx}
theorem pe_star {e} : PE X e (RE X e) := ⟨fun pins s σ H Q I ⟨_, h, q⟩ => h.run pins s σ H Q I q⟩
theorem pt_star {e} : PT X e (RT X e) := ⟨fun pins s σ H Q I ⟨_, h, q⟩ => h.run pins s σ H Q I q⟩
theorem pw_star {e} : PW X e (RW X e) := ⟨fun wh pins s σ H Q I ⟨_, h, q⟩ => h.run wh pins s σ H Q I q⟩
theorem pa_star {es} : PA X es (RA X es) := ⟨fun pos pins s σ H Q I ⟨_, h, q⟩ => h.run pos pins s σ H Q I q⟩
theorem ps_star {st} : PS X st (RS X st) := ⟨fun pins s σ H D I ⟨_, h, q⟩ => h.run pins s σ H D I q⟩
theorem pss_star {st} : PSs X st (RSs X st) := ⟨fun pins s σ H D I ⟨_, h, q⟩ => h.run pins s σ H D I q⟩
theorem pi_star {tg it} : PI X tg it (RI X tg it) := ⟨fun pins s σ H R I ⟨_, h, q⟩ => h.run pins s σ H R I q⟩
theorem pg_star {tg} : PG X tg (RG X tg) := ⟨fun pins s σ H v u Q I r ⟨_, h, q⟩ => h.run pins s σ H v u Q I r q⟩
theorem pgs_star {tg} : PGs X tg (RGs X tg) := ⟨fun pins s σ H v u Q I r ⟨_, h, q⟩ => h.run pins s σ H v u Q I r q⟩
theorem RE.of {e t σ H Q} (h : PE X e t) (q : t σ H Q) : RE X e σ H Q := ⟨t, h, q⟩
theorem RT.of {e t σ H Q} (h : PT X e t) (q : t σ H Q) : RT X e σ H Q := ⟨t, h, q⟩
theorem RA.of {e t σ H Q} (h : PA X e t) (q : t σ H Q) : RA X e σ H Q := ⟨t, h, q⟩
end
def ED (X : Cx) (ρ : En) (e : Expr) (d : D) : Prop := ∀ B0 B σ H0 H (Q : VK), J X.K B0 B σ H0 H ρ → (∀ v H0' H', JH H0 H H0' H' → DR X.K H0' d v → Q v H') → RE X e σ H Q
/-- .. that is new and nobody else's -/
def EO (X : Cx) (ρ : En) (e : Expr) (c : OC) : Prop := ∀ B0 B σ H0 H (Q : VK), J X.K B0 B σ H0 H ρ → (∀ a o H0' H', JH H0 H H0' H' → H' a = some o → H0' a = none → H a = none → OCR X.K H0' c o → Q (.ref a) H') → RE X e σ H Q
def TD (X : Cx) (ρ : En) (e : Expr) (b : Bool) : Prop := ∀ B0 B σ H0 H (Q : Bool → Hp → Prop), J X.K B0 B σ H0 H ρ → (∀ H0' H', JH H0 H H0' H' → Q b H') → RT X e σ H Q
def TW (X : Cx) (ρ : En) (e : Expr) (b : Bool) : Prop := ∀ B0 B σ H0 H (Q : Bool → Hp → Prop), J X.K B0 B σ H0 H ρ → (∀ H0' H', JH H0 H H0' H' → Q b H') → RW X e σ H Q
def AD (X : Cx) (ρ : En) (es : List Expr) (ds : List D) : Prop := ∀ B0 B σ H0 H (Q : List V → Hp → Prop), J X.K B0 B σ H0 H ρ → (∀ vs H0' H', JH H0 H H0' H' → DRs X.K H0' ds vs → Q vs H') → RA X es σ H Q
/-- by values: a binary operation, a call of a built-in -/
def O2 (K : PySem.W.Frag) (r : R2) (d e f : D) : Prop := ∀ H0 H x y (Q : VK), Same H0 H → DR K H0 d x → DR K H0 e y → (∀ v H0' H', JH H0 H H0' H' → DR K H0' f v → Q v H') → r x y H Q
structure B2 (X : Cx) (op : Operator) (d e f : D) : Prop where
  ex : ∃ r, OpR X (binaryOp op) r ∧ O2 X.K r d e f
structure C2 (X : Cx) (op : CmpOp) (d e f : D) : Prop where
  ex : ∃ r, OpR X (compareOp op) r ∧ O2 X.K r d e f
structure BC (X : Cx) (f : Value) (ds : List D) (d : D) : Prop where
  ex : ∃ r, CallR X f r ∧ ∀ H0 H vs (Q : VK), Same H0 H → DRs X.K H0 ds vs → (∀ v H0' H', JH H0 H H0' H' → DR X.K H0' d v → Q v H') → r vs H Q
structure BO (X : Cx) (f : Value) (ds : List D) (c : OC) : Prop where
  ex : ∃ r, CallR X f r ∧ ∀ H0 H vs (Q : VK), Same H0 H → DRs X.K H0 ds vs → (∀ a o H0' H', JH H0 H H0' H' → H' a = some o → H0' a = none → H a = none → OCR X.K H0' c o → Q (.ref a) H') → r vs H Q
section
variable {X : Cx} {ρ : En} {e a b c : Expr} {d d1 d2 d3 : D} {pos : Pos}
theorem ED.eq {d' : D} (h : ED X ρ e d) (q : d = d') : ED X ρ e d' := q ▸ h
theorem TD.eq {k k' : Bool} (h : TD X ρ e k) (q : k = k') : TD X ρ e k' := q ▸ h
theorem EO.eq {c c' : OC} (h : EO X ρ e c) (q : c = c') : EO X ρ e c' := q ▸ h
theorem DR.own {K : PySem.W.Frag} {H0 : Hp} {c : OC} {a : Addr} {o : HO} (n : H0 a = none) (h : OCR K H0 c o) : DR K (upd H0 a o) c.d (.ref a) := OCR.dr n h
/-- .. and is given to all at once -/
theorem JH.give {H0 H H0' H' : Hp} {a : Addr} {o : HO} (g : JH H0 H H0' H') (h : H' a = some o) (h0 : H0' a = none) (n : H a = none) : JH H0 H (upd H0' a o) H' := by
  refine ⟨fun b u e => upd_keep (g.s0 b u e) (ne_of_none (g.s0 b u e) h0), fun b u e => ?_, g.sB, fun b u e nt e' => ?_⟩
  · by_cases hb : b = a
    · subst hb; rw [upd_same] at e; cases e; exact h
    · rw [upd_ne hb] at e; exact g.sh b u e
  · rw [upd_ne (ne_of_none e n)]; exact g.fr b u e nt e'
theorem ed_own {c : OC} (h : EO X ρ e c) : ED X ρ e c.d := fun B0 B σ H0 H Q j k =>
  h B0 B σ H0 H Q j fun a o H0' H' g h1 h2 h3 r => k _ (upd H0' a o) H' (g.give h1 h2 h3) (DR.own h2 r)
theorem ed_lst {ds : List D} (h : EO X ρ e (.lst ds)) : ED X ρ e (.lst ds) := ed_own h
theorem ed_var (i : Nat) {x : Str} (hρ : ρ[i]? = some (.sh d)) (hN : X.N[i]? = some x := by rfl) (hv : Vis X.env.scope x := by first | exact Or.inl rfl | exact Or.inr (Or.inl rfl) | exact Or.inr (Or.inr rfl)) (hd : (x == ("__debug__" : Str)) = false := by decide)
    (hcd : (x == ("__classdict__" : Str)) = false := by decide) : ED X ρ (.Name x pos) d := fun B0 B σ H0 H Q j k => by
  obtain ⟨ov, h1, v, rfl, h2⟩ := j.get hρ
  exact RE.of (pe_var hN hv hd hcd) ⟨v, h1, k v H0 H (JH.refl j.same) h2⟩
theorem ed_int {i j} : ED X ρ (.Constant (.int i) j pos) (.int i) := fun B0 B σ H0 H Q j k => RE.of pe_int (k _ H0 H (JH.refl j.same) rfl)
theorem ed_bl {i j} : ED X ρ (.Constant (.bool i) j pos) (.bl i) := fun B0 B σ H0 H Q j k => RE.of pe_bl (k _ H0 H (JH.refl j.same) rfl)
theorem ed_non {j} : ED X ρ (.Constant .none j pos) .non := fun B0 B σ H0 H Q j k => RE.of pe_non (k _ H0 H (JH.refl j.same) rfl)
theorem ed_str {i j} : ED X ρ (.Constant (.str i) j pos) (.str i) := fun B0 B σ H0 H Q j k => RE.of pe_str (k _ H0 H (JH.refl j.same) rfl)
theorem ed_bin {op : Operator} (ha : ED X ρ a d1) (hb : ED X ρ b d2) (ho : B2 X op d1 d2 d) : ED X ρ (.BinOp a op b pos) d := fun B0 B σ H0 H Q j k => by
  obtain ⟨r, h1, h2⟩ := ho
  refine RE.of (pe_op h1 pe_star pe_star) (ha B0 B σ H0 H _ j fun x G0 G g1 r1 => ?_)
  refine hb B0 B σ G0 G _ (j.grow g1) fun y L0 L g2 r2 => ?_
  exact h2 L0 L x y Q g2.sh (DR.mono g2.s0 _ _ r1) r2 fun v M0 M g3 r3 => k v M0 M ((g1.trans g2).trans g3) r3
theorem ed_cmp {op : CmpOp} (ha : ED X ρ a d1) (hb : ED X ρ b d2) (ho : C2 X op d1 d2 d) (hm : behindInMarks op b = false := by first | exact nomark _ | rfl) : ED X ρ (.Compare a [op] [b] pos) d := fun B0 B σ H0 H Q j k => by
  obtain ⟨r, h1, h2⟩ := ho
  refine RE.of (pe_cmpR h1 pe_star pe_star hm) (ha B0 B σ H0 H _ j fun x G0 G g1 r1 => ?_)
  refine hb B0 B σ G0 G _ (j.grow g1) fun y L0 L g2 r2 => ?_
  exact h2 L0 L x y Q g2.sh (DR.mono g2.s0 _ _ r1) r2 fun v M0 M g3 r3 => k v M0 M ((g1.trans g2).trans g3) r3
theorem td_cmp {op : CmpOp} {k : Bool} (ha : ED X ρ a d1) (hb : ED X ρ b d2) (ho : C2 X op d1 d2 (.bl k)) (hm : behindInMarks op b = false := by first | exact nomark _ | rfl) : TD X ρ (.Compare a [op] [b] pos) k := fun B0 B σ H0 H Q j kk => by
  obtain ⟨r, h1, h2⟩ := ho
  refine RT.of (pt_cmpR h1 pe_star pe_star hm) (ha B0 B σ H0 H _ j fun x G0 G g1 r1 => ?_)
  refine hb B0 B σ G0 G _ (j.grow g1) fun y L0 L g2 r2 => ?_
  refine h2 L0 L x y _ g2.sh (DR.mono g2.s0 _ _ r1) r2 fun v M0 M g3 r3 => ⟨k, r3, kk M0 M ((g1.trans g2).trans g3)⟩
theorem ed_chain {op op' : CmpOp} {k k' : Bool} (ha : ED X ρ a d1) (hb : ED X ρ b d2) (hc : ED X ρ c d3) (ho : C2 X op d1 d2 (.bl k)) (ho' : C2 X op' d2 d3 (.bl k')) (hm : lastMarks [op, op'] [b, c] = false := by with_unfolding_all rfl) :
    ED X ρ (.Compare a [op, op'] [b, c] pos) (.bl (k && k')) := fun B0 B σ H0 H Q j kk => by
  obtain ⟨r, h1, h2⟩ := ho
  obtain ⟨r', h1', h2'⟩ := ho'
  refine RE.of (pe_chain h1 h1' pe_star pe_star pe_star hm) (ha B0 B σ H0 H _ j fun x G0 G g1 r1 => ?_)
  refine hb B0 B σ G0 G _ (j.grow g1) fun y L0 L g2 r2 => ?_
  refine h2 L0 L x y _ g2.sh (DR.mono g2.s0 _ _ r1) r2 fun v M0 M g3 r3 => ⟨k, r3, ?_⟩
  cases k with
  | false => exact iteF (kk _ M0 M ((g1.trans g2).trans g3) rfl)
  | true =>
    refine iteT (hc B0 B σ M0 M _ (((j.grow g1).grow g2).grow g3) fun z N0 N g4 r4 => ?_)
    exact h2' N0 N y z Q g4.sh (DR.mono (g3.trans g4).s0 _ _ r2) r4 fun v P0 P g5 r5 => kk v P0 P (((g1.trans g2).trans (g3.trans g4)).trans g5) (by simpa using r5)
theorem td_chain {op op' : CmpOp} {k k' : Bool} (ha : ED X ρ a d1) (hb : ED X ρ b d2) (hc : ED X ρ c d3) (ho : C2 X op d1 d2 (.bl k)) (ho' : C2 X op' d2 d3 (.bl k')) (hm : lastMarks [op, op'] [b, c] = false := by with_unfolding_all rfl) :
    TD X ρ (.Compare a [op, op'] [b, c] pos) (k && k') := fun B0 B σ H0 H Q j kk => by
  obtain ⟨r, h1, h2⟩ := ho
  obtain ⟨r', h1', h2'⟩ := ho'
  refine RT.of (pt_chain h1 h1' pe_star pe_star pe_star hm) (ha B0 B σ H0 H _ j fun x G0 G g1 r1 => ?_)
  refine hb B0 B σ G0 G _ (j.grow g1) fun y L0 L g2 r2 => ?_
  refine h2 L0 L x y _ g2.sh (DR.mono g2.s0 _ _ r1) r2 fun v M0 M g3 r3 => ⟨k, r3, ?_⟩
  cases k with
  | false => exact iteF ⟨_, rfl, kk M0 M ((g1.trans g2).trans g3)⟩
  | true =>
    refine iteT (hc B0 B σ M0 M _ (((j.grow g1).grow g2).grow g3) fun z N0 N g4 r4 => ?_)
    exact h2' N0 N y z _ g4.sh (DR.mono (g3.trans g4).s0 _ _ r2) r4 fun v P0 P g5 r5 => ⟨k', r5, kk P0 P (((g1.trans g2).trans (g3.trans g4)).trans g5)⟩
theorem td_not {k : Bool} (h : TD X ρ a k) : TD X ρ (.UnaryOp .Not a pos) (!k) := fun B0 B σ H0 H Q j kk =>
  RT.of (pt_not pt_star) (h B0 B σ H0 H _ j fun H0' H' g => kk H0' H' g)
theorem tw_and1 {k : Bool} (h : TD X ρ a k) : TW X ρ (.BoolOp .And [a] pos) k := fun B0 B σ H0 H Q j kk => ⟨_, pw_and1 pt_star, h B0 B σ H0 H _ j kk⟩
theorem tw_or1 {k : Bool} (h : TD X ρ a k) : TW X ρ (.BoolOp .Or [a] pos) k := fun B0 B σ H0 H Q j kk => ⟨_, pw_or1 pt_star, h B0 B σ H0 H _ j kk⟩
theorem tw_and {k k' : Bool} {rest : List Expr} (h : TD X ρ a k) (h' : k = true → TW X ρ (.BoolOp .And (b :: rest) pos) k') : TW X ρ (.BoolOp .And (a :: b :: rest) pos) (k && k') := fun B0 B σ H0 H Q j kk => by
  refine ⟨_, pw_and pt_star pw_star, h B0 B σ H0 H _ j fun H0' H' g => ?_⟩
  cases k with
  | false => exact iteF (kk H0' H' g)
  | true => exact iteT (h' rfl B0 B σ H0' H' _ (j.grow g) fun G0 G g2 => kk G0 G (g.trans g2))
theorem tw_or {k k' : Bool} {rest : List Expr} (h : TD X ρ a k) (h' : k = false → TW X ρ (.BoolOp .Or (b :: rest) pos) k') : TW X ρ (.BoolOp .Or (a :: b :: rest) pos) (k || k') := fun B0 B σ H0 H Q j kk => by
  refine ⟨_, pw_or pt_star pw_star, h B0 B σ H0 H _ j fun H0' H' g => ?_⟩
  cases k with
  | true => exact iteT (kk H0' H' g)
  | false => exact iteF (h' rfl B0 B σ H0' H' _ (j.grow g) fun G0 G g2 => kk G0 G (g.trans g2))
theorem td_tw {k : Bool} (h : TW X ρ e k) : TD X ρ e k := fun B0 B σ H0 H Q j kk => by
  obtain ⟨t, h1, h2⟩ := h B0 B σ H0 H Q j kk
  exact ⟨t, h1.pt, h2⟩
/-- and, or as values -/
theorem ed_one {op} (h : ED X ρ a d) : ED X ρ (.BoolOp op [a] pos) d := fun B0 B σ H0 H Q j kk => RE.of (pe_one pe_star) (h B0 B σ H0 H _ j kk)
theorem ed_and {k k' : Bool} {rest : List Expr} (h : ED X ρ a (.bl k)) (h' : k = true → ED X ρ (.BoolOp .And (b :: rest) pos) (.bl k')) : ED X ρ (.BoolOp .And (a :: b :: rest) pos) (.bl (k && k')) := fun B0 B σ H0 H Q j kk => by
  refine RE.of (pe_and pe_star pe_star) (h B0 B σ H0 H _ j fun v H0' H' g r => ⟨k, r, ?_⟩)
  cases k with
  | false => exact iteF (kk _ H0' H' g rfl)
  | true => exact iteT (h' rfl B0 B σ H0' H' _ (j.grow g) fun v G0 G g2 r2 => kk v G0 G (g.trans g2) r2)
theorem ed_or {k k' : Bool} {rest : List Expr} (h : ED X ρ a (.bl k)) (h' : k = false → ED X ρ (.BoolOp .Or (b :: rest) pos) (.bl k')) : ED X ρ (.BoolOp .Or (a :: b :: rest) pos) (.bl (k || k')) := fun B0 B σ H0 H Q j kk => by
  refine RE.of (pe_or pe_star pe_star) (h B0 B σ H0 H _ j fun v H0' H' g r => ⟨k, r, ?_⟩)
  cases k with
  | true => exact iteT (kk _ H0' H' g rfl)
  | false => exact iteF (h' rfl B0 B σ H0' H' _ (j.grow g) fun v G0 G g2 r2 => kk v G0 G (g.trans g2) r2)
theorem ed_not {k : Bool} (h : ED X ρ a (.bl k)) : ED X ρ (.UnaryOp .Not a pos) (.bl (!k)) := fun B0 B σ H0 H Q j kk =>
  RE.of (pe_not pe_star) (h B0 B σ H0 H _ j fun v H0' H' g r => ⟨k, r, kk _ H0' H' g rfl⟩)
theorem ed_if {k : Bool} (h : TD X ρ c k) (h1 : k = true → ED X ρ a d) (h2 : k = false → ED X ρ b d) : ED X ρ (.IfExp c a b pos) d := fun B0 B σ H0 H Q j kk => by
  refine RE.of (pe_ifExp pt_star pe_star pe_star) (h B0 B σ H0 H _ j fun H0' H' g => ?_)
  cases k with
  | true => exact iteT (h1 rfl B0 B σ H0' H' _ (j.grow g) fun v G0 G g2 r2 => kk v G0 G (g.trans g2) r2)
  | false => exact iteF (h2 rfl B0 B σ H0' H' _ (j.grow g) fun v G0 G g2 r2 => kk v G0 G (g.trans g2) r2)
theorem ed_neg {i : Int} (h : ED X ρ a (.int i)) : ED X ρ (.UnaryOp .USub a pos) (.int (-i)) := fun B0 B σ H0 H Q j kk =>
  RE.of (pe_un un_neg pe_star) (h B0 B σ H0 H _ j fun v H0' H' g r => ⟨i, r, kk _ H0' H' g rfl⟩)
theorem ad_nil : AD X ρ [] [] := fun B0 B σ H0 H Q j k => RA.of pa_nil (k [] H0 H (JH.refl j.same) rfl)
theorem ad_cons {es : List Expr} {ds : List D} (h : ED X ρ e d) (r : AD X ρ es ds) (hs : starEach (e :: es) X.env = (false, eval e X.env) :: starEach es X.env := by rfl) : AD X ρ (e :: es) (d :: ds) := fun B0 B σ H0 H Q j k =>
  RA.of (pa_cons pe_star pa_star hs) (h B0 B σ H0 H _ j fun v G0 G g1 r1 => r B0 B σ G0 G _ (j.grow g1) fun vs L0 L g2 r2 => k (v :: vs) L0 L (g1.trans g2) ⟨v, vs, rfl, DR.mono g2.s0 _ _ r1, r2⟩)
theorem ed_tup {es : List Expr} {ds : List D} {x1} (h : AD X ρ es ds) (hl : ds.length ≤ sizeLine := by first | decide | (simp only [List.length_cons, List.length_nil]; decide)) : ED X ρ (.Tuple es x1 pos) (.tup ds) := fun B0 B σ H0 H Q j k =>
  RE.of (pe_tup pa_star) (h B0 B σ H0 H _ j fun vs G0 G g r => ⟨by rw [← r.length]; exact hl, fun p hp => by
    have g2 : JH G0 G (upd G0 p (.tup vs)) (upd G p (.tup vs)) := JH.new g.sh hp
    exact k _ _ _ (g.trans g2) ⟨p, vs, rfl, SqT.of upd_same, DRs.mono g2.s0 _ _ r⟩⟩)
theorem eo_lst {es : List Expr} {ds : List D} (h : AD X ρ es ds) (hl : ds.length ≤ sizeLine := by first | decide | (simp only [List.length_cons, List.length_nil]; decide)) : EO X ρ (.List es pos) (.lst ds) := fun B0 B σ H0 H Q j k =>
  RE.of (pe_lst pa_star) (h B0 B σ H0 H _ j fun vs G0 G g r => ⟨by rw [← r.length]; exact hl, fun p hp => by
    have g2 : JH G0 G G0 (upd G p (.lst vs)) := JH.own g.sh hp
    exact k p _ _ _ (g.trans g2) upd_same (g.sh.free hp) (g.sB.free hp) ⟨vs, rfl, r⟩⟩)
theorem eo_dk : EO X ρ (.Dict [] [] pos) (.dk [] []) := fun B0 B σ H0 H Q j k =>
  RE.of pe_dnewK fun p hp => k p _ _ _ (JH.own j.same hp) upd_same (j.same.free hp) hp ⟨[], rfl, rfl, rfl⟩
def spR (K : PySem.W.Frag) (R : List D → D → Prop) : Sp := fun vs H Q _ => ∃ H0 ds d, Same H0 H ∧ DRs K H0 ds vs ∧ R ds d ∧ ∀ r H0' H', JH H0 H H0' H' → DR K H0' d r → Q r H'
/-- a def of the program at hand -/
structure Fn (P : Program) (w : World) (K : PySem.W.Frag) (mg : Str → Option Value) (base : Heap) (x : Str) (k : Nat) (R : List D → D → Prop) : Prop where
  ex : ∃ f fd ps, FnOk P w K mg base CX0 k f fd ps (spR K R) ∧ mg x = some (.ref f) ∧ PySem.W.keepIn K (.ref f) = true ∧ Binds K fd ps []
theorem ed_call {x : Str} {k : Nat} {R : List D → D → Prop} {es : List Expr} {ds : List D} {p : Pos} (G : Fn X.prog X.w X.K X.mg X.base x k R) (hr : Room k X.A) (hg : Gl X x) (ha : AD X ρ (e :: es) ds) (hR : R ds d)
    (hdb : (x == ("__debug__" : Str)) = false := by decide) (he : starEach (e :: es) X.env = (false, eval e X.env) :: starEach es X.env := by rfl) (hpl : (backTo pos (starEach es X.env)).any (·.1) = false := by rfl) :
    ED X ρ (.Call (.Name x p) (e :: es) [] pos) d := fun B0 B σ H0 H Q j kk => by
  obtain ⟨f, fd, ps, F, hm, hk, hb⟩ := G.ex
  refine RE.of (pe_call (E := E0) F hr hg hm hk hb .nil pass0 pa_star hdb he hpl) (ha B0 B σ H0 H _ j fun vs G0 G g r => ?_)
  rw [List.append_nil]
  exact ⟨G0, ds, d, g.sh, r, hR, fun v L0 L g2 r2 => kk v L0 L (g.trans g2) r2⟩
theorem ed_callB {x : Str} {id : String} {es : List Expr} {ds : List D} {p : Pos} (hg : Gl X x) (hm : X.mg x = none) (hv : bootBuiltins x = some (.builtin id)) (ha : AD X ρ (e :: es) ds) (h : BC X (.builtin id) ds d) (hn : x ≠ "__name__" := by decide) (hdb : (x == ("__debug__" : Str)) = false := by decide)
    (he : starEach (e :: es) X.env = (false, eval e X.env) :: starEach es X.env := by rfl) (hpl : (backTo pos (starEach es X.env)).any (·.1) = false := by rfl) : ED X ρ (.Call (.Name x p) (e :: es) [] pos) d := fun B0 B σ H0 H Q j kk => by
  obtain ⟨r, h1, h2⟩ := h
  exact RE.of (pe_callB h1 hg hm hv pa_star hn hdb he hpl) (ha B0 B σ H0 H _ j fun vs G0 G g r => h2 G0 G vs Q g.sh r fun v L0 L g2 r2 => kk v L0 L (g.trans g2) r2)
theorem ed_callT {x : Str} {T : String} {es : List Expr} {ds : List D} {p : Pos} (hg : Gl X x) (hm : X.mg x = none) (hv : bootBuiltins x = some (.type T)) (ha : AD X ρ (e :: es) ds) (h : BC X (.type T) ds d) (hn : x ≠ "__name__" := by decide) (hdb : (x == ("__debug__" : Str)) = false := by decide)
    (he : starEach (e :: es) X.env = (false, eval e X.env) :: starEach es X.env := by rfl) (hpl : (backTo pos (starEach es X.env)).any (·.1) = false := by rfl) : ED X ρ (.Call (.Name x p) (e :: es) [] pos) d := fun B0 B σ H0 H Q j kk => by
  obtain ⟨r, h1, h2⟩ := h
  exact RE.of (pe_callTy h1 hg hm hv pa_star hn hdb he hpl) (ha B0 B σ H0 H _ j fun vs G0 G g r => h2 G0 G vs Q g.sh r fun v L0 L g2 r2 => kk v L0 L (g.trans g2) r2)
theorem eo_callB {x : Str} {id : String} {es : List Expr} {ds : List D} {c : OC} {p : Pos} (hg : Gl X x) (hm : X.mg x = none) (hv : bootBuiltins x = some (.builtin id)) (ha : AD X ρ (e :: es) ds) (h : BO X (.builtin id) ds c) (hn : x ≠ "__name__" := by decide) (hdb : (x == ("__debug__" : Str)) = false := by decide)
    (he : starEach (e :: es) X.env = (false, eval e X.env) :: starEach es X.env := by rfl) (hpl : (backTo pos (starEach es X.env)).any (·.1) = false := by rfl) : EO X ρ (.Call (.Name x p) (e :: es) [] pos) c := fun B0 B σ H0 H Q j kk => by
  obtain ⟨r, h1, h2⟩ := h
  exact RE.of (pe_callB h1 hg hm hv pa_star hn hdb he hpl) (ha B0 B σ H0 H _ j fun vs G0 G g r => h2 G0 G vs Q g.sh r fun a o L0 L g2 h3 h4 h5 r2 => kk a o L0 L (g.trans g2) h3 h4 (g.sB.free h5) r2)
end
section
variable {X : Cx}
theorem o2_keep {K : PySem.W.Frag} {r : R2} {d e f : D} (v : V) (hv : ∀ H0 : Hp, DR K H0 f v) (h : ∀ H0 H x y (Q : VK), Same H0 H → DR K H0 d x → DR K H0 e y → Q v H → r x y H Q) : O2 K r d e f := fun H0 H x y Q s r1 r2 k =>
  h H0 H x y Q s r1 r2 (k v H0 H (JH.refl s) (hv H0))
theorem b2_add {i j : Int} : B2 X .Add (.int i) (.int j) (.int (i + j)) := ⟨_, op_add, o2_keep _ (fun _ => rfl) fun _ _ _ _ _ _ r1 r2 q => ⟨i, j, r1, r2, q⟩⟩
theorem b2_sub {i j : Int} : B2 X .Sub (.int i) (.int j) (.int (i - j)) := ⟨_, op_sub, o2_keep _ (fun _ => rfl) fun _ _ _ _ _ _ r1 r2 q => ⟨i, j, r1, r2, q⟩⟩
theorem b2_mul {i j : Int} (h : CMul i j) : B2 X .Mult (.int i) (.int j) (.int (i * j)) := ⟨_, op_mul, o2_keep _ (fun _ => rfl) fun _ _ _ _ _ _ r1 r2 q => ⟨i, j, r1, r2, h, q⟩⟩
theorem b2_fdiv {i j : Int} (h : CDiv i j) : B2 X .FloorDiv (.int i) (.int j) (.int (i / j)) := ⟨_, op_fdiv, o2_keep _ (fun _ => rfl) fun _ _ _ _ _ _ r1 r2 q => ⟨i, j, r1, r2, h, q⟩⟩
theorem b2_mod {i j : Int} (h : 0 < j) : B2 X .Mod (.int i) (.int j) (.int (i % j)) := ⟨_, op_mod, o2_keep _ (fun _ => rfl) fun _ _ _ _ _ _ r1 r2 q => ⟨i, j, r1, r2, h, q⟩⟩
theorem b2_pow {i j : Int} (h : CPow i j) : B2 X .Pow (.int i) (.int j) (.int (i ^ j.toNat)) := ⟨_, op_pow, o2_keep _ (fun _ => rfl) fun _ _ _ _ _ _ r1 r2 q => ⟨i, j, r1, r2, h, q⟩⟩
theorem b2_addS {i j : Str} (h : i.length + j.length ≤ sizeLine) : B2 X .Add (.str i) (.str j) (.str (i ++ j)) := ⟨_, op_add_str, o2_keep _ (fun _ => rfl) fun _ _ _ _ _ _ r1 r2 q => ⟨i, j, r1, r2, h, q⟩⟩
theorem c2_lt {i j : Int} : C2 X .Lt (.int i) (.int j) (.bl (decide (i < j))) := ⟨_, op_lt, o2_keep _ (fun _ => rfl) fun _ _ _ _ _ _ r1 r2 q => ⟨i, j, r1, r2, q⟩⟩
theorem c2_le {i j : Int} : C2 X .LtE (.int i) (.int j) (.bl (decide (i ≤ j))) := ⟨_, op_le, o2_keep _ (fun _ => rfl) fun _ _ _ _ _ _ r1 r2 q => ⟨i, j, r1, r2, q⟩⟩
theorem c2_gt {i j : Int} : C2 X .Gt (.int i) (.int j) (.bl (decide (j < i))) := ⟨_, op_gt, o2_keep _ (fun _ => rfl) fun _ _ _ _ _ _ r1 r2 q => ⟨i, j, r1, r2, q⟩⟩
theorem c2_ge {i j : Int} : C2 X .GtE (.int i) (.int j) (.bl (decide (j ≤ i))) := ⟨_, op_ge, o2_keep _ (fun _ => rfl) fun _ _ _ _ _ _ r1 r2 q => ⟨i, j, r1, r2, q⟩⟩
theorem c2_eqI {i j : Int} : C2 X .Eq (.int i) (.int j) (.bl (decide (i = j))) := ⟨_, op_eq, fun H0 H x y Q s r1 r2 k => by
  cases (show x = .int i from r1); cases (show y = .int j from r2)
  exact ⟨rfl, k _ H0 H (JH.refl s) (by simp [DR])⟩⟩
theorem c2_neI {i j : Int} : C2 X .NotEq (.int i) (.int j) (.bl (!decide (i = j))) := ⟨_, op_ne, fun H0 H x y Q s r1 r2 k => by
  cases (show x = .int i from r1); cases (show y = .int j from r2)
  exact ⟨rfl, k _ H0 H (JH.refl s) (by simp [DR])⟩⟩
theorem c2_eqS {i j : Str} : C2 X .Eq (.str i) (.str j) (.bl (decide (i = j))) := ⟨_, op_eq, fun H0 H x y Q s r1 r2 k => by
  cases (show x = .str i from r1); cases (show y = .str j from r2)
  exact ⟨rfl, k _ H0 H (JH.refl s) (by simp [DR])⟩⟩
theorem c2_neS {i j : Str} : C2 X .NotEq (.str i) (.str j) (.bl (!decide (i = j))) := ⟨_, op_ne, fun H0 H x y Q s r1 r2 k => by
  cases (show x = .str i from r1); cases (show y = .str j from r2)
  exact ⟨rfl, k _ H0 H (JH.refl s) (by simp [DR])⟩⟩
theorem c2_eqB {i j : Bool} : C2 X .Eq (.bl i) (.bl j) (.bl (decide (i = j))) := ⟨_, op_eq, fun H0 H x y Q s r1 r2 k => by
  cases (show x = .bl i from r1); cases (show y = .bl j from r2)
  exact ⟨rfl, k _ H0 H (JH.refl s) (by simp [DR])⟩⟩
theorem c2_neB {i j : Bool} : C2 X .NotEq (.bl i) (.bl j) (.bl (!decide (i = j))) := ⟨_, op_ne, fun H0 H x y Q s r1 r2 k => by
  cases (show x = .bl i from r1); cases (show y = .bl j from r2)
  exact ⟨rfl, k _ H0 H (JH.refl s) (by simp [DR])⟩⟩
theorem c2_isB {i j : Bool} : C2 X .Is (.bl i) (.bl j) (.bl (decide (i = j))) := ⟨_, op_isBl, o2_keep _ (fun _ => rfl) fun _ _ _ _ _ _ r1 r2 q => ⟨i, j, r1, r2, q⟩⟩
theorem c2_notB {i j : Bool} : C2 X .IsNot (.bl i) (.bl j) (.bl (!decide (i = j))) := ⟨_, op_notBl, o2_keep _ (fun _ => rfl) fun _ _ _ _ _ _ r1 r2 q => ⟨i, j, r1, r2, q⟩⟩
def isNon : D → Bool
  | .non => true
  | _ => false
theorem DR.non {K : PySem.W.Frag} {H : Hp} {d : D} {v : V} (h : DR K H d v) : decide (v = .non) = isNon d := by
  cases d with
  | non => cases (show v = .non from h); rfl
  | bl _ => cases (show v = .bl _ from h); rfl
  | int _ => cases (show v = .int _ from h); rfl
  | str _ => cases (show v = .str _ from h); rfl
  | ty _ => cases (show v = .ty _ from h); rfl
  | lst _ => obtain ⟨_, _, rfl, _⟩ := h; rfl
  | tup _ => obtain ⟨_, _, rfl, _⟩ := h; rfl
  | dk _ _ => obtain ⟨_, _, rfl, _⟩ := h; rfl
  | dt _ _ => obtain ⟨_, _, rfl, _⟩ := h; rfl
  | obj _ _ _ => obtain ⟨_, _, _, _, rfl, _⟩ := h; rfl
  | ad _ => cases (show v = .ref _ from h); rfl
  | ptp _ => obtain ⟨_, _, _, rfl, _⟩ := h; rfl
  | etp _ => obtain ⟨_, _, rfl, _⟩ := h; rfl
  | exc _ _ _ _ => obtain ⟨rfl, _⟩ := h; rfl
theorem c2_isN {d : D} : C2 X .Is d .non (.bl (isNon d)) := ⟨_, op_isN, fun H0 H x y Q s r1 r2 k => ⟨r2, k _ H0 H (JH.refl s) (by rw [r1.non]; rfl)⟩⟩
theorem c2_notN {d : D} : C2 X .IsNot d .non (.bl (!isNon d)) := ⟨_, op_notN, fun H0 H x y Q s r1 r2 k => ⟨r2, k _ H0 H (JH.refl s) (by rw [r1.non]; rfl)⟩⟩
mutual
def D.py : D → PyData
  | .non => .none
  | .bl b => .bool b
  | .int i => .int i
  | .str x => .str x
  | .lst ds => .list (D.pys ds)
  | .tup ds => .tuple (D.pys ds)
  | .dk _ _ => .none
  | .dt _ _ => .none
  | .obj _ _ _ => .none
  | .ad _ => .none
  | .ptp _ => .none
  | .etp _ => .none
  | .exc _ _ _ _ => .none
  | .ty _ => .none
def D.pys : List D → List PyData
  | [] => []
  | d :: ds => D.py d :: D.pys ds
end
mutual
def D.plain : D → Bool
  | .lst ds => D.plains ds
  | .tup ds => D.plains ds
  | .dk _ _ => false
  | .dt _ _ => false
  | .obj _ _ _ => false
  | .ad _ => false
  | .ptp _ => false
  | .etp _ => false
  | .exc _ _ _ _ => false
  | .ty _ => false
  | _ => true
def D.plains : List D → Bool
  | [] => true
  | d :: ds => D.plain d && D.plains ds
end
mutual
theorem DR.dp {K : PySem.W.Frag} {H : Hp} : ∀ (d : D) (v : V), d.plain = true → DR K H d v → Dp K H v d.py
  | .non, v, _, h => by cases (show v = .non from h); exact .non
  | .bl b, v, _, h => by cases (show v = .bl b from h); exact .bl b
  | .int b, v, _, h => by cases (show v = .int b from h); exact .int b
  | .str b, v, _, h => by cases (show v = .str b from h); exact .str b
  | .lst ds, v, p, h => by
    obtain ⟨a, vs, rfl, h2, h3⟩ := h
    exact .lst h2 (DRs.dp ds vs (by simpa [D.plain] using p) h3)
  | .tup ds, v, p, h => by
    obtain ⟨a, vs, rfl, h2, h3⟩ := h
    exact .tup h2 (DRs.dp ds vs (by simpa [D.plain] using p) h3)
  | .dk _ _, v, p, h => by simp [D.plain] at p
  | .dt _ _, v, p, h => by simp [D.plain] at p
  | .obj _ _ _, v, p, h => by simp [D.plain] at p
  | .ad _, v, p, h => by simp [D.plain] at p
  | .ptp _, v, p, h => by simp [D.plain] at p
  | .etp _, v, p, h => by simp [D.plain] at p
  | .exc _ _ _ _, v, p, h => by simp [D.plain] at p
  | .ty _, v, p, h => by simp [D.plain] at p
theorem DRs.dp {K : PySem.W.Frag} {H : Hp} : ∀ (ds : List D) (vs : List V), D.plains ds = true → DRs K H ds vs → DpAll K H vs (D.pys ds)
  | [], vs, _, h => by cases (show vs = [] from h); exact .nil
  | d :: ds, vs, p, h => by
    obtain ⟨v, r, rfl, h2, h3⟩ := h
    simp only [D.plains, Bool.and_eq_true] at p
    exact .cons (DR.dp d v p.1 h2) (DRs.dp ds r p.2 h3)
end
/-- data that == may be asked of -/
structure Cmp (d : D) : Prop where
  p : d.plain = true
  s : SeqAt.shaped d.py = true
theorem c2_eqD {d e : D} {k : Bool} (hu : X.A.units + 64 < cLine) (hd : Cmp d) (he : Cmp e) (h : PyData.eqv d.py e.py = k) : C2 X .Eq d e (.bl k) := ⟨_, op_eqD hu, fun H0 H x y Q s r1 r2 kk =>
  ⟨d.py, e.py, DR.dp _ _ hd.p (DR.mono s _ _ r1), DR.dp _ _ he.p (DR.mono s _ _ r2), hd.s, he.s, kk _ H0 H (JH.refl s) (by rw [h]; rfl)⟩⟩
theorem c2_neD {d e : D} {k : Bool} (hu : X.A.units + 64 < cLine) (hd : Cmp d) (he : Cmp e) (h : PyData.eqv d.py e.py = k) : C2 X .NotEq d e (.bl (!k)) := ⟨_, op_neD hu, fun H0 H x y Q s r1 r2 kk =>
  ⟨d.py, e.py, DR.dp _ _ hd.p (DR.mono s _ _ r1), DR.dp _ _ he.p (DR.mono s _ _ r2), hd.s, he.s, kk _ H0 H (JH.refl s) (by rw [h]; rfl)⟩⟩
theorem ix_t {ds : List D} {i : Int} {d : D} {ρ : En} {a b : Expr} {pos : Pos} (ha : ED X ρ a (.tup ds)) (hb : ED X ρ b (.int i)) (h : atI ds i = some d) (hs : PlainIx b := by exact fun _ _ => rfl) : ED X ρ (.Subscript a b pos) d := fun B0 B σ H0 H Q j kk => by
  refine RE.of (pe_ix ix_tup pe_star pe_star hs) (ha B0 B σ H0 H _ j fun x G0 G g1 r1 => hb B0 B σ G0 G _ (j.grow g1) fun y L0 L g2 r2 => ?_)
  obtain ⟨p, vs, rfl, h1, h2⟩ := DR.mono g2.s0 _ _ r1
  obtain ⟨k, e1, e2, _⟩ := atI_get h
  obtain ⟨v, h3, h4⟩ := DRs.get h2 e2
  have e4 : atI vs i = some v := by
    unfold atI at h ⊢
    rw [← DRs.length h2]
    cases q : ixN ds.length i with
    | none => rw [q] at h; cases h
    | some m =>
      rw [q] at h
      obtain ⟨v', h5, h6⟩ := DRs.get h2 (show ds[m]? = some d from h)
      show vs[m]? = some v
      have := (ixN_seq q).1
      rw [e1] at this
      cases this
      exact h3
  exact ⟨p, vs, i, v, rfl, r2, Same.seqT g2.sh h1, e4, kk v L0 L (g1.trans g2) h4⟩
theorem ix_l {ds : List D} {i : Int} {d : D} {ρ : En} {a b : Expr} {pos : Pos} (ha : ED X ρ a (.lst ds)) (hb : ED X ρ b (.int i)) (h : atI ds i = some d) (hs : PlainIx b := by exact fun _ _ => rfl) : ED X ρ (.Subscript a b pos) d := fun B0 B σ H0 H Q j kk => by
  refine RE.of (pe_ix ix_list pe_star pe_star hs) (ha B0 B σ H0 H _ j fun x G0 G g1 r1 => hb B0 B σ G0 G _ (j.grow g1) fun y L0 L g2 r2 => ?_)
  obtain ⟨p, vs, rfl, h1, h2⟩ := DR.mono g2.s0 _ _ r1
  obtain ⟨k, e1, e2, _⟩ := atI_get h
  obtain ⟨v, h3, h4⟩ := DRs.get h2 e2
  have e4 : atI vs i = some v := by
    unfold atI at h ⊢
    rw [← DRs.length h2]
    cases q : ixN ds.length i with
    | none => rw [q] at h; cases h
    | some m =>
      rw [q] at h
      show vs[m]? = some v
      have := (ixN_seq q).1
      rw [e1] at this
      cases this
      exact h3
  exact ⟨p, vs, i, v, rfl, r2, g2.sh.seq h1, e4, kk v L0 L (g1.trans g2) h4⟩
theorem bc_keep {f : Value} {ds : List D} {d : D} {r : List V → Hp → VK → Prop} (c : CallR X f r) (v : V) (hv : ∀ H0 : Hp, DR X.K H0 d v) (h : ∀ H0 H vs (Q : VK), Same H0 H → DRs X.K H0 ds vs → Q v H → r vs H Q) : BC X f ds d :=
  ⟨r, c, fun H0 H vs Q s r1 k => h H0 H vs Q s r1 (k v H0 H (JH.refl s) (hv H0))⟩
theorem DRs.two {K : PySem.W.Frag} {H : Hp} {d e : D} {vs : List V} (h : DRs K H [d, e] vs) : ∃ x y, vs = [x, y] ∧ DR K H d x ∧ DR K H e y := by
  obtain ⟨x, r, rfl, h1, h2⟩ := h
  obtain ⟨y, r, rfl, h3, h4⟩ := h2
  cases (show r = [] from h4)
  exact ⟨x, y, rfl, h1, h3⟩
theorem DRs.one' {K : PySem.W.Frag} {H : Hp} {d : D} {vs : List V} (h : DRs K H [d] vs) : ∃ x, vs = [x] ∧ DR K H d x := by
  obtain ⟨x, r, rfl, h1, h2⟩ := h
  cases (show r = [] from h2)
  exact ⟨x, rfl, h1⟩
theorem bc_int {i : Int} : BC X (.type "int") [.int i] (.int i) := bc_keep call_int1 _ (fun _ => rfl) fun _ _ vs _ _ r q => by
  obtain ⟨x, rfl, h⟩ := r.one'
  cases (show x = .int i from h)
  exact .inl ⟨i, rfl, q⟩
theorem bc_min2 {i j : Int} (hc : X.calm = true) : BC X (.builtin "min") [.int i, .int j] (.int (min i j)) := bc_keep (call_min2 hc) _ (fun _ => rfl) fun _ _ vs _ _ r q => by
  obtain ⟨x, y, rfl, h, h'⟩ := r.two
  cases (show x = .int i from h); cases (show y = .int j from h')
  have e : min i j = (if j < i then j else i) := by split <;> omega
  exact ⟨i, j, rfl, by rw [← e]; exact q⟩
theorem bc_max2 {i j : Int} (hc : X.calm = true) : BC X (.builtin "max") [.int i, .int j] (.int (max i j)) := bc_keep (call_max2 hc) _ (fun _ => rfl) fun _ _ vs _ _ r q => by
  obtain ⟨x, y, rfl, h, h'⟩ := r.two
  cases (show x = .int i from h); cases (show y = .int j from h')
  have e : max i j = (if j > i then j else i) := by split <;> omega
  exact ⟨i, j, rfl, by rw [← e]; exact q⟩
theorem bc_lenL {ds : List D} : BC X (.builtin "len") [.lst ds] (.int ds.length) := bc_keep call_len_seq _ (fun _ => rfl) fun _ _ vs _ s r q => by
  obtain ⟨x, rfl, a, ys, rfl, h1, h2⟩ := r.one'
  exact ⟨a, ys, rfl, .inl (s.seq h1), by rw [← DRs.length h2]; exact q⟩
theorem bc_lenT {ds : List D} : BC X (.builtin "len") [.tup ds] (.int ds.length) := bc_keep call_len_seq _ (fun _ => rfl) fun _ _ vs _ s r q => by
  obtain ⟨x, rfl, a, ys, rfl, h1, h2⟩ := r.one'
  exact ⟨a, ys, rfl, .inr (Same.seqT s h1), by rw [← DRs.length h2]; exact q⟩
theorem bc_tupL {ds : List D} : BC X (.type "tuple") [.lst ds] (.tup ds) := ⟨_, call_tuple_of, fun H0 H vs Q s r k => by
  obtain ⟨x, rfl, a, ys, rfl, h1, h2⟩ := r.one'
  exact ⟨a, ys, rfl, .inl ⟨s.seq h1, fun l hl => k _ (upd H0 l (.tup ys)) _ (JH.new s hl) ⟨l, ys, rfl, SqT.of upd_same, DRs.mono (JH.new s hl).s0 _ _ h2⟩⟩⟩⟩
theorem bc_tupT {ds : List D} : BC X (.type "tuple") [.tup ds] (.tup ds) := ⟨_, call_tuple_of, fun H0 H vs Q s r k => by
  obtain ⟨x, rfl, a, ys, rfl, h1, h2⟩ := r.one'
  exact ⟨a, ys, rfl, .inr ⟨Same.seqT s h1, k _ H0 H (JH.refl s) ⟨a, ys, rfl, h1, h2⟩⟩⟩⟩
theorem bo_listL {ds : List D} : BO X (.type "list") [.lst ds] (.lst ds) := ⟨_, call_list_of, fun H0 H vs Q s r k => by
  obtain ⟨x, rfl, a, ys, rfl, h1, h2⟩ := r.one'
  exact ⟨a, ys, rfl, .inl (s.seq h1), fun l hl => k l _ _ _ (JH.own s hl) upd_same (s.free hl) hl ⟨ys, rfl, h2⟩⟩⟩
theorem bo_listT {ds : List D} : BO X (.type "list") [.tup ds] (.lst ds) := ⟨_, call_list_of, fun H0 H vs Q s r k => by
  obtain ⟨x, rfl, a, ys, rfl, h1, h2⟩ := r.one'
  exact ⟨a, ys, rfl, .inr (Same.seqT s h1), fun l hl => k l _ _ _ (JH.own s hl) upd_same (s.free hl) hl ⟨ys, rfl, h2⟩⟩⟩
theorem bc_all {bs : List Bool} (hc : X.calm = true) : BC X (.builtin "all") [.lst (bs.map D.bl)] (.bl (bs.all id)) := bc_keep (cr_all hc) _ (fun _ => rfl) fun _ _ vs _ s r q => by
  obtain ⟨x, rfl, a, ys, rfl, h1, h2⟩ := r.one'
  rw [DRs.bls h2] at h1
  exact ⟨a, bs, rfl, s.seq h1, q⟩
/-- the greatest, the least of a list that is not empty -/
theorem bc_maxL {ns : List Int} {m : Int} (hc : X.calm = true) (hm : m ∈ ns) (hle : ∀ y ∈ ns, y ≤ m) : BC X (.builtin "max") [.lst (ns.map D.int)] (.int m) := ⟨_, cr_max hc, fun H0 H vs Q s r k => by
  obtain ⟨x, rfl, a, ys, rfl, h1, h2⟩ := r.one'
  rw [DRs.ints h2] at h1
  refine ⟨a, ns, rfl, s.seq h1, List.length_pos_of_mem hm, fun m' h3 h4 => ?_⟩
  have e : m' = m := Int.le_antisymm (hle _ h3) (h4 _ hm)
  exact k _ H0 H (JH.refl s) (by rw [e]; rfl)⟩
theorem bc_minL {ns : List Int} {m : Int} (hc : X.calm = true) (hm : m ∈ ns) (hle : ∀ y ∈ ns, m ≤ y) : BC X (.builtin "min") [.lst (ns.map D.int)] (.int m) := ⟨_, cr_min hc, fun H0 H vs Q s r k => by
  obtain ⟨x, rfl, a, ys, rfl, h1, h2⟩ := r.one'
  rw [DRs.ints h2] at h1
  refine ⟨a, ns, rfl, s.seq h1, List.length_pos_of_mem hm, fun m' h3 h4 => ?_⟩
  have e : m' = m := Int.le_antisymm (h4 _ hm) (hle _ h3)
  exact k _ H0 H (JH.refl s) (by rw [e]; rfl)⟩
end
end DL
namespace DL
open PySem PySem.Spec L2
def DG (X : Cx) (is : List Nat) (tg : Expr) (d : D) (ρ ρ' : En) : Prop := ∀ B0 B σ H0 H v (Q : St → Hp → Prop), J X.K B0 B σ H0 H ρ → DR X.K H0 d v → (∀ σ', J X.K B0 B σ' H0 H ρ' → (∀ k, k ∉ is → σ'[k]? = σ[k]?) → Q σ' H) → RG X tg v σ H Q
def DGs (X : Cx) (is : List Nat) (ts : List Expr) (ds : List D) (ρ ρ' : En) : Prop := ∀ B0 B σ H0 H vs (Q : St → Hp → Prop), J X.K B0 B σ H0 H ρ → DRs X.K H0 ds vs → (∀ σ', J X.K B0 B σ' H0 H ρ' → (∀ k, k ∉ is → σ'[k]? = σ[k]?) → Q σ' H) → RGs X ts vs σ H Q
section
variable {X : Cx} {ρ ρ' ρ2 : En} {e a b c : Expr} {d d1 d2 d3 : D} {pos : Pos}
theorem dg_name (i : Nat) {x : Str} (hN : X.N.Nodup) (hi : X.N[i]? = some x := by rfl) (hx : Loc X.env.scope x := by first | exact Or.inl rfl | exact Or.inr rfl) (hf : X.fn x = true ∨ X.env.scope.names.lookup x = some .local := by first | exact .inl rfl | exact .inr rfl) :
    DG X [i] (.Name x pos) d ρ (ρ.set i (.sh d)) := fun B0 B σ H0 H v Q j r k => by
  refine ⟨_, pg_name hN hi hx hf, k _ (j.setSh r) fun m hm => ?_⟩
  rw [List.getElem?_set_ne (fun e => hm (by simp [e]))]
theorem dgs_nil : DGs X [] [] [] ρ ρ := fun B0 B σ H0 H vs Q j r k => by
  cases (show vs = [] from r)
  exact ⟨_, pgs_nil, rfl, k σ j fun _ _ => rfl⟩
theorem dgs_cons {is is' : List Nat} {es : List Expr} {ds : List D} (h : DG X is e d ρ ρ') (r : DGs X is' es ds ρ' ρ2) (hs : (assignEach (e :: es) X.env).map (·.2) = assign e X.env :: (assignEach es X.env).map (·.2) := by rfl) :
    DGs X (is ++ is') (e :: es) (d :: ds) ρ ρ2 := fun B0 B σ H0 H vs Q j rr k => by
  obtain ⟨v, ws, rfl, r1, r2⟩ := rr
  refine ⟨_, pgs_cons pg_star pgs_star hs, v, ws, rfl, h B0 B σ H0 H v _ j r1 fun σ1 j1 k1 => r B0 B σ1 H0 H ws _ j1 r2 fun σ2 j2 k2 => k σ2 j2 fun m hm => ?_⟩
  rw [k2 m (fun z => hm (by simp [z])), k1 m (fun z => hm (by simp [z]))]
theorem dg_tup {is : List Nat} {es : List Expr} {ds : List D} {k1 : Nat} {n : Nat} (hc : X.calm = true) (h : DGs X is es ds ρ ρ') (hl : ds.length = n := by rfl) (hn : (assignEach es X.env).length = n := by rfl) (hst : (assignEach es X.env).findIdx? (·.1) = none := by rfl) :
    DG X is (.Tuple es k1 pos) (.tup ds) ρ ρ' := fun B0 B σ H0 H v Q j r k => by
  obtain ⟨p, vs, rfl, h1, h2⟩ := r
  exact ⟨_, pg_tup hc pgs_star hn hst, p, vs, rfl, Same.seqT j.same h1, by rw [← DRs.length h2]; exact hl, h B0 B σ H0 H vs Q j h2 k⟩
def DWalk (K : PySem.W.Frag) (Jt : It) (H0 : Hp) (ds : List D) : Prop := ∃ G Y, Walk Jt ds.length G Y ∧ (∀ H1 H, Same H0 H1 → Same H1 H → G H) ∧
  ∀ i H1 H x H' d, ds[i]? = some d → Same H0 H1 → Same H1 H → Y i H x H' → ∃ H1', JH H1 H H1' H' ∧ DR K H1' d x
def ID (X : Cx) (ρ : En) (tg iter : Expr) (ds : List D) : Prop := ∀ B0 B σ H0 H R, J X.K B0 B σ H0 H ρ → (∀ Jt H0' H', JH H0 H H0' H' → DWalk X.K Jt H0' ds → R Jt H') → RI X tg iter σ H R
theorem dw_list {K : PySem.W.Frag} {H0 : Hp} {p : Addr} {vs : List V} {ds : List D} (h : SqL K H0 p vs) (r : DRs K H0 ds vs) : DWalk K (Itl K p) H0 ds := by
  refine ⟨_, _, (by rw [DRs.length r]; exact walk_list (xs := vs)), fun H1 H s1 s2 => (s1.trans s2).seq h, fun i H1 H x H' d hd s1 s2 y => ?_⟩
  obtain ⟨rfl, hx⟩ := y
  obtain ⟨v, h1, h2⟩ := DRs.get r hd
  rw [hx] at h1; cases h1
  exact ⟨H1, JH.refl s2, DR.mono s1 _ _ h2⟩
theorem dw_tup {K : PySem.W.Frag} {H0 : Hp} {p : Addr} {vs : List V} {ds : List D} (h : SqT K H0 p vs) (r : DRs K H0 ds vs) : DWalk K (Itt K p) H0 ds := by
  refine ⟨_, _, (by rw [DRs.length r]; exact walk_tup (xs := vs)), fun H1 H s1 s2 => Same.seqT (s1.trans s2) h, fun i H1 H x H' d hd s1 s2 y => ?_⟩
  obtain ⟨rfl, hx⟩ := y
  obtain ⟨v, h1, h2⟩ := DRs.get r hd
  rw [hx] at h1; cases h1
  exact ⟨H1, JH.refl s2, DR.mono s1 _ _ h2⟩
/-- lo, lo + 1, .. -/
def rngD (lo : Int) (n : Nat) : List D := (List.range n).map fun (i : Nat) => D.int (lo + (i : Int))
theorem rngD_len (lo : Int) (n : Nat) : (rngD lo n).length = n := by simp [rngD]
theorem rngD_get {lo : Int} {n i : Nat} {d : D} (h : (rngD lo n)[i]? = some d) : i < n ∧ d = .int (lo + i) := by
  have hi : i < n := by have := (List.getElem?_eq_some_iff.mp h).1; rwa [rngD_len] at this
  refine ⟨hi, ?_⟩
  simp [rngD, List.getElem?_map, List.getElem?_range hi] at h
  exact h.symm
theorem dw_range {K : PySem.W.Frag} {H0 : Hp} {lo : Int} {n : Nat} : DWalk K (Itr lo n) H0 (rngD lo n) := by
  refine ⟨_, _, (by rw [rngD_len]; exact walk_range), fun _ _ _ _ => trivial, fun i H1 H x H' d hd s1 s2 y => ?_⟩
  obtain ⟨rfl, rfl⟩ := y
  obtain ⟨_, rfl⟩ := rngD_get hd
  exact ⟨H1, JH.refl s2, rfl⟩
theorem id_list {ds : List D} {tg : Expr} (h : ED X ρ e (.lst ds)) : ID X ρ tg e ds := fun B0 B σ H0 H R j k =>
  ⟨_, pi_list pe_star, h B0 B σ H0 H _ j fun v G0 G g r => by
    obtain ⟨p, vs, rfl, h1, h2⟩ := r
    exact ⟨p, rfl, ⟨vs, g.sh.seq h1⟩, k _ G0 G g (dw_list h1 h2)⟩⟩
theorem id_tup {ds : List D} {tg : Expr} (h : ED X ρ e (.tup ds)) : ID X ρ tg e ds := fun B0 B σ H0 H R j k =>
  ⟨_, pi_tup pe_star, h B0 B σ H0 H _ j fun v G0 G g r => by
    obtain ⟨p, vs, rfl, h1, h2⟩ := r
    exact ⟨p, rfl, ⟨vs, Same.seqT g.sh h1⟩, k _ G0 G g (dw_tup h1 h2)⟩⟩
theorem id_range1 {tg : Expr} {p : Pos} {i : Int} (hg : Gl X "range") (hm : X.mg "range" = none) (ha : ED X ρ a (.int i)) (hb : -(2 ^ 62) ≤ i ∧ i < 2 ^ 62) (hs : starEach [a] X.env = [(false, eval a X.env)] := by rfl) (hs2 : starEach [a] X.env = (false, eval a X.env) :: starEach [] X.env := by rfl) :
    ID X ρ tg (.Call (.Name "range" p) [a] [] pos) (rngD 0 i.toNat) := fun B0 B σ H0 H R j k =>
  ⟨_, pi_range1 hg hm pa_star hs, ad_cons (X := X) ha ad_nil hs2 B0 B σ H0 H _ j fun vs G0 G g r => by
    obtain ⟨x, rfl, h⟩ := r.one'
    cases (show x = .int i from h)
    exact ⟨i, rfl, hb.1, hb.2, k _ G0 G g dw_range⟩⟩
def wipeE (ρ : En) : List Nat → En
  | [] => ρ
  | v :: vs => (wipeE ρ vs).set v .no
theorem J.setNo {K : PySem.W.Frag} {B0 B H0 H : Hp} {σ : St} {ρ : En} (j : J K B0 B σ H0 H ρ) (i : Nat) : J K B0 B (σ.set i none) H0 H (ρ.set i .no) := j.setTo (s := .no) True.intro fun a w => w.elim
theorem J.wipe {K : PySem.W.Frag} {B0 B H0 H : Hp} {σ : St} {ρ : En} (j : J K B0 B σ H0 H ρ) : ∀ vs : List Nat, J K B0 B (wipe σ vs) H0 H (wipeE ρ vs)
  | [] => j
  | v :: vs => (J.wipe j vs).setNo v
theorem wipe_at {σ : St} {i : Nat} : ∀ {vs : List Nat}, i ∈ vs → i < σ.length → (wipe σ vs)[i]? = some none
  | v :: vs, h, hl => by
    unfold wipe
    by_cases e : v = i
    · subst e
      rw [List.getElem?_set_self (by rw [wipe_length]; exact hl)]
    · rw [List.getElem?_set_ne e]
      exact wipe_at (by simpa [Ne.symm e] using h) hl
theorem wipe_back {σ σ2 : St} {vs : List Nat} (hl : σ2.length = σ.length) (h : ∀ k, k ∉ vs → σ2[k]? = (wipe σ vs)[k]?) : wipe σ2 vs = wipe σ vs := by
  refine List.ext_getElem? fun k => ?_
  by_cases hk : k ∈ vs
  · by_cases hb : k < σ.length
    · rw [wipe_at hk (by omega), wipe_at hk hb]
    · rw [List.getElem?_eq_none (by rw [wipe_length]; omega), List.getElem?_eq_none (by rw [wipe_length]; omega)]
  · rw [wipe_out hk, h k hk]
def RTs (X : Cx) (ifs : List Expr) : TT := fun σ H Q => ∃ t, PTs X ifs t ∧ t σ H Q
def TDs (X : Cx) (ρ : En) (ifs : List Expr) (b : Bool) : Prop := ∀ B0 B σ H0 H (Q : Bool → Hp → Prop), J X.K B0 B σ H0 H ρ → (∀ H0' H', JH H0 H H0' H' → Q b H') → RTs X ifs σ H Q
theorem tds_nil : TDs X ρ [] true := fun B0 B σ H0 H Q j k => ⟨_, pts_nil, k H0 H (JH.refl j.same)⟩
theorem tds_one {k : Bool} (h : TD X ρ c k) : TDs X ρ [c] k := fun B0 B σ H0 H Q j kk => ⟨_, pts_one pt_star, h B0 B σ H0 H _ j kk⟩
theorem filterMap_take {α β : Type} (g : α → Option β) (ds : List α) (i : Nat) (d : α) (h : ds[i]? = some d) : (ds.take (i + 1)).filterMap g = (ds.take i).filterMap g ++ (g d).toList := by
  rw [List.take_add_one, h, List.filterMap_append]
  cases q : g d <;> simp [List.filterMap_cons, q]
theorem filterMap_len {α β : Type} (g : α → Option β) (ds : List α) (i : Nat) : ((ds.take i).filterMap g).length ≤ i := by
  refine Nat.le_trans (List.length_filterMap_le _ _) ?_
  simp; omega
section
variable {elt tg iter : Expr} {ifs : List Expr} {scope : Scope} {own : List (Str × Nat)} {ds : List D}
/-- one turn of a comprehension, in every block that may be -/
def Turn1 (X : Cx) (ρ : En) (scope : Scope) (vs : List Nat) (tg elt : Expr) (ifs : List Expr) (d : D) (y : Option D) : Prop :=
  ∃ ρ' : En, ρ'.length = ρ.length ∧ ∀ (s : Shared) (H : Hp) (C : Addr) (cl : List (Str × Addr)) (fp : List Addr), DG (X.blk s H scope (compEnvC scope cl C X.env) fp) vs tg d (wipeE ρ vs) ρ' ∧
    (match y with
    | some z => TDs (X.blk s H scope (compEnvC scope cl C X.env) fp) ρ' ifs true ∧ ED (X.blk s H scope (compEnvC scope cl C X.env) fp) ρ' elt z
    | none => TDs (X.blk s H scope (compEnvC scope cl C X.env) fp) ρ' ifs false)
def GB (X : Cx) (scope : Scope) (tg : Expr) : TG := fun v σ H Q => ∀ (s : Shared) (H' : Hp) (C : Addr) (cl : List (Str × Addr)) (fp : List Addr), RG (X.blk s H' scope (compEnvC scope cl C X.env) fp) tg v σ H Q
def TB (X : Cx) (scope : Scope) (ifs : List Expr) : TT := fun σ H Q => ∀ (s : Shared) (H' : Hp) (C : Addr) (cl : List (Str × Addr)) (fp : List Addr), RTs (X.blk s H' scope (compEnvC scope cl C X.env) fp) ifs σ H Q
def EB (X : Cx) (scope : Scope) (elt : Expr) : TE := fun σ H Q => ∀ (s : Shared) (H' : Hp) (C : Addr) (cl : List (Str × Addr)) (fp : List Addr), RE (X.blk s H' scope (compEnvC scope cl C X.env) fp) elt σ H Q
def TLc (X : Cx) (scope : Scope) (own : List (Str × Nat)) (tg elt iter : Expr) (ifs : List Expr) : TE := tLc (RI X tg iter) (GB X scope tg) (TB X scope ifs) (EB X scope elt) (own.map (·.2))
theorem wipeE_length (ρ : En) : ∀ vs : List Nat, (wipeE ρ vs).length = ρ.length
  | [] => rfl
  | v :: vs => by unfold wipeE; rw [List.length_set, wipeE_length ρ vs]
theorem lc_read (hi : ID X ρ tg iter ds) (ys : List (Option D)) (hlen : ys.length = ds.length) (turn : ∀ (i : Nat) d y, ds[i]? = some d → ys[i]? = some y → Turn1 X ρ scope (own.map (·.2)) tg elt ifs d y) (hl : ds.length ≤ sizeLine) {B0 B : Hp} {σ : St} {H0 H : Hp} {Q : VK} (j : J X.K B0 B σ H0 H ρ)
    (k : ∀ a o H0' H', JH H0 H H0' H' → H' a = some o → H0' a = none → H a = none → OCR X.K H0' (.lst (ys.filterMap id)) o → Q (.ref a) H') : TLc X scope own tg elt iter ifs σ H Q := by
  refine hi B0 B σ H0 H _ j fun Jt G0 G g0 ⟨GG, Y, w, hG, hY⟩ => fun Dn hD => ?_
  have j0 := j.grow g0
  refine lc_it (g := GB X scope tg) (tt := TB X scope ifs) (te := EB X scope elt) (vs := own.map (·.2)) (Qd := fun H => Q (.ref Dn) H) w (fun i H1 => ∃ L0 acc, JH G0 G L0 H1 ∧ H1 Dn = some (.lst acc) ∧ L0 Dn = none ∧ DRs X.K L0 ((ys.take i).filterMap id) acc) ⟨G0, [], JH.own g0.sh hD, upd_same, g0.sh.free hD, rfl⟩ (fun i H1 _ ⟨L0, acc, g1, _⟩ => hG L0 H1 g1.s0 g1.sh) ?_ ?_
  · rintro i x H1 H1' hi ⟨L0, acc, g1, hDn, hD0, racc⟩ hy
    obtain ⟨d, hd⟩ : ∃ d, ds[i]? = some d := ⟨ds[i], by simp [hi]⟩
    obtain ⟨L1, g2, rx⟩ := hY i L0 H1 x H1' d hd g1.s0 g1.sh hy
    obtain ⟨yo, hyo⟩ : ∃ y, ys[i]? = some y := ⟨ys[i]'(by omega), by simp [show i < ys.length by omega]⟩
    obtain ⟨ρ', hlen', turn⟩ := turn i d yo hd hyo
    have j1 := ((j0.grow g1).grow g2).wipe (own.map (·.2))
    have hacc : acc.length < sizeLine := by
      have h1 := DRs.length racc
      have h2 := filterMap_len id ys i
      omega
    intro s Hs C cl fp
    refine (turn s Hs C cl fp).1 B0 B _ L1 H1' x _ j1 rx fun σ2 j2 off => ⟨wipe_back (by rw [j2.len, hlen', ← wipeE_length ρ (own.map (·.2)), ← j1.len, wipe_length]) off, ?_⟩
    have gg := g1.trans g2
    have hDn' : H1' Dn = some (.lst acc) := g2.sB _ _ hDn
    have hD0' : L1 Dn = none := g2.fr _ _ hDn trivial hD0
    have eT := filterMap_take id ys i yo hyo
    cases yo with
    | none =>
      intro s Hs C cl fp
      have t2 := (turn s Hs C cl fp).2
      refine t2 B0 B σ2 L1 H1' _ j2 fun M0 M g3 => iteF ⟨M0, acc, gg.trans g3, g3.sB _ _ hDn', g3.fr _ _ hDn' trivial hD0', ?_⟩
      rw [eT]
      simpa using DRs.mono (g2.trans g3).s0 _ _ racc
    | some z =>
      intro s Hs C cl fp
      have t2 := (turn s Hs C cl fp).2
      refine t2.1 B0 B σ2 L1 H1' _ j2 fun M0 M g3 => iteT fun s Hs C cl fp => ?_
      have t3 := (turn s Hs C cl fp).2
      refine t3.2 B0 B σ2 M0 M _ (j2.grow g3) fun y N0 N g4 ry => ?_
      have g34 := g3.trans g4
      have h4 : N Dn = some (.lst acc) := g34.sB _ _ hDn'
      have h40 : N0 Dn = none := g34.fr _ _ hDn' trivial hD0'
      have gl := gg.trans g34
      refine ⟨acc, h4, hacc, N0, acc ++ [y], ⟨gl.s0, fun b u e => upd_keep (gl.sh b u e) (ne_of_none e h40), fun b u e => upd_keep (gl.sB b u e) (ne_of_none e hD), gl.fr⟩, upd_same, h40, ?_⟩
      rw [eT]
      exact DRs.app (DRs.mono (g2.trans g34).s0 _ _ racc) (DRs.one ry)
  · rintro H1 ⟨L0, acc, g1, hDn, hD0, racc⟩
    rw [List.take_of_length_le (Nat.le_of_eq hlen)] at racc
    exact k Dn _ L0 H1 (g0.trans g1) hDn hD0 (g0.sB.free hD) ⟨acc, rfl, racc⟩
variable {cpos : Pos}
theorem eo_lc (own : List (Str × Nat)) (hc : X.calm = true) (hN : X.N.Nodup) (ok : BlkOk X.N X.env.scope scope own) (hi : ID X ρ tg iter ds) (ys : List (Option D)) (hlen : ys.length = ds.length) (turn : ∀ (i : Nat) d y, ds[i]? = some d → ys[i]? = some y → Turn1 X ρ scope (own.map (·.2)) tg elt ifs d y) (hl : ds.length ≤ sizeLine)
    (hs : ∀ x, foldedSetIterable iter X.env x = pure x := by intro _; rfl) : EO X ρ (.ListComp elt [⟨tg, iter, ifs, 0⟩] scope cpos) (.lst (ys.filterMap id)) := fun B0 B σ H0 H Q j k =>
  RE.of (pe_lc hc hN pi_star ok (g := GB X scope tg) (tt := TB X scope ifs) (te := EB X scope elt)
    (fun s H C cl fp => ⟨fun pins s1 σ1 H1 v u Q1 I r h => (pg_star (tg := tg)).run pins s1 σ1 H1 v u Q1 I r (h s H C cl fp)⟩)
    (fun s H C cl fp => ⟨fun pins s1 σ1 H1 Q1 I h => by obtain ⟨t, h1, h2⟩ := h s H C cl fp; exact h1.run pins s1 σ1 H1 Q1 I h2⟩)
    (fun s H C cl fp => ⟨fun pins s1 σ1 H1 Q1 I h => (pe_star (e := elt)).run pins s1 σ1 H1 Q1 I (h s H C cl fp)⟩) hs) (lc_read hi ys hlen turn hl j k)
end
inductive Out where
  | nx (ρ : En) | bk (ρ : En) | ct (ρ : En) | rt (d : D)
  /-- .. with what was its own -/
  | ro (c : OC)
  /-- .. with what it was lent -/
  | rc (d : D) (cs : List (Addr × OC))
def Post (K : PySem.W.Frag) (B0 B : Hp) (Dn : Ends) : Out → Prop
  | .nx ρ => ∀ σ H0 H, J K B0 B σ H0 H ρ → Dn.nx σ H
  | .bk ρ => ∀ σ H0 H, J K B0 B σ H0 H ρ → Dn.bk σ H
  | .ct ρ => ∀ σ H0 H, J K B0 B σ H0 H ρ → Dn.ct σ H
  | .rt d => ∀ v H0 H, JH B0 B H0 H → DR K H0 d v → Dn.rt v H
  | .ro c => ∀ a o H0 H, JH B0 B H0 H → H a = some o → H0 a = none → B a = none → OCR K H0 c o → Dn.rt (.ref a) H
  | .rc d cs => ∀ v H0 H, JH B0 B H0 H → (∀ p ∈ cs, CellR K B H0 H p.1 p.2) → (cs.map (·.1)).Nodup → DR K H0 d v → Dn.rt v H
def WS (X : Cx) (st : Stmt) (ρ : En) (Φ : Out → Prop) : Prop := ∀ B0 B σ H0 H Dn, J X.K B0 B σ H0 H ρ → (∀ o, Φ o → Post X.K B0 B Dn o) → RS X st Dn σ H
def WSs (X : Cx) (sts : List Stmt) (ρ : En) (Φ : Out → Prop) : Prop := ∀ B0 B σ H0 H Dn, J X.K B0 B σ H0 H ρ → (∀ o, Φ o → Post X.K B0 B Dn o) → RSs X sts Dn σ H
/-- what is wanted of a statement that others follow -/
def Then (X : Cx) (rest : List Stmt) (Φ : Out → Prop) : Out → Prop
  | .nx ρ => WSs X rest ρ Φ
  | o => Φ o
variable {st : Stmt} {rest : List Stmt} {Φ : Out → Prop}
theorem ws_nil (h : Φ (.nx ρ)) : WSs X [] ρ Φ := fun B0 B σ H0 H Dn j k => ⟨_, pss_nil, k _ h σ H0 H j⟩
theorem ws_cons (h : WS X st ρ (Then X rest Φ)) : WSs X (st :: rest) ρ Φ := fun B0 B σ H0 H Dn j k => by
  refine ⟨_, pss_cons ps_star pss_star, h B0 B σ H0 H _ j fun o ho => ?_⟩
  cases o with
  | nx ρ' => exact fun σ' H0' H' j' => ho B0 B σ' H0' H' Dn j' k
  | bk ρ' => exact k _ ho
  | ct ρ' => exact k _ ho
  | rt d => exact k _ ho
  | ro c => exact k _ ho
  | rc d cs => exact k _ ho
theorem ws_mono {Ψ : Out → Prop} (h : WSs X rest ρ Ψ) (k : ∀ o, Ψ o → Φ o) : WSs X rest ρ Φ := fun B0 B σ H0 H Dn j kk => h B0 B σ H0 H Dn j fun o ho => kk o (k o ho)
/-- what a slot owns is given to all -/
theorem ws_share (i : Nat) {c : OC} (hi : ρ[i]? = some (.ow c)) (h : WSs X rest (ρ.set i (.sh c.d)) Φ) : WSs X rest ρ Φ := fun B0 B σ H0 H Dn j k => by
  obtain ⟨H0', j', _⟩ := j.share hi
  exact h B0 B σ H0' H Dn j' k
theorem ws_ret (h : ED X ρ e d) (hΦ : Φ (.rt d)) : WS X (.Return (some e) pos) ρ Φ := fun B0 B σ H0 H Dn j k =>
  ⟨_, ps_ret pe_star, h B0 B σ H0 H _ j fun v H0' H' g r => k _ hΦ v H0' H' (j.hp.trans g) r⟩
theorem ws_if {k : Bool} {sa sb : List Stmt} (hc : TD X ρ c k) (h1 : k = true → WSs X sa ρ Φ) (h2 : k = false → WSs X sb ρ Φ) : WS X (.If c sa sb pos) ρ Φ := fun B0 B σ H0 H Dn j kk => by
  refine ⟨_, ps_if pt_star pss_star pss_star, hc B0 B σ H0 H _ j fun H0' H' g => ?_⟩
  cases k with
  | true => exact iteT (h1 rfl B0 B σ H0' H' Dn (j.grow g) kk)
  | false => exact iteF (h2 rfl B0 B σ H0' H' Dn (j.grow g) kk)
theorem ws_set (i : Nat) {x : Str} {pos' : Pos} (hN : X.N.Nodup) (he : ED X ρ e d) (hΦ : Φ (.nx (ρ.set i (.sh d)))) (hi : X.N[i]? = some x := by rfl) (hx : Loc X.env.scope x := by first | exact Or.inl rfl | exact Or.inr rfl)
    (hs : swapsWith e (some (.Name x pos')) pos.line X.env = pure false := by rfl) (hf : X.fn x = true ∨ X.env.scope.names.lookup x = some .local := by first | exact .inl rfl | exact .inr rfl) : WS X (.Assign [.Name x pos'] e pos) ρ Φ := fun B0 B σ H0 H Dn j k =>
  ⟨_, ps_set hN hi hx pe_star hs hf, he B0 B σ H0 H _ j fun v H0' H' g r => k _ hΦ _ H0' H' ((j.grow g).setSh r)⟩
theorem J.setNew {K : PySem.W.Frag} {B0 B H0 H H0' H' : Hp} {σ : St} {ρ : En} (j : J K B0 B σ H0 H ρ) (g : JH H0 H H0' H') {i : Nat} {c : OC} {a : Addr} {o : HO} (h : H' a = some o) (h0 : H0' a = none) (n : H a = none) (r : OCR K H0' c o) :
    J K B0 B (σ.set i (some (.ref a))) H0' H' (ρ.set i (.ow c)) :=
  (j.grow g).setOwn h h0 (j.hp.sB.free n) (fun m s ov _ hm hs w => by
    obtain ⟨o', h1, _⟩ := j.own hm hs w
    rw [n] at h1; cases h1) r
theorem ws_setO (i : Nat) {x : Str} {c : OC} {pos' : Pos} (hN : X.N.Nodup) (he : EO X ρ e c) (hΦ : Φ (.nx (ρ.set i (.ow c)))) (hi : X.N[i]? = some x := by rfl) (hx : Loc X.env.scope x := by first | exact Or.inl rfl | exact Or.inr rfl)
    (hs : swapsWith e (some (.Name x pos')) pos.line X.env = pure false := by rfl) (hf : X.fn x = true ∨ X.env.scope.names.lookup x = some .local := by first | exact .inl rfl | exact .inr rfl) : WS X (.Assign [.Name x pos'] e pos) ρ Φ := fun B0 B σ H0 H Dn j k =>
  ⟨_, ps_set hN hi hx pe_star hs hf, he B0 B σ H0 H _ j fun a o H0' H' g h1 h2 h3 r => k _ hΦ _ H0' H' (j.setNew g h1 h2 h3 r)⟩
section
variable {elt tg iter : Expr} {ifs : List Expr} {scope : Scope} {ds : List D} {cpos : Pos}
/-- y = [.. for ..], y a local of the def's own on the same line -/
theorem ws_setLc (i : Nat) (own : List (Str × Nat)) {y : Str} {py : Pos} (hc : X.calm = true) (hN : X.N.Nodup) (ok : BlkOk X.N X.env.scope scope own) (hi : ID X ρ tg iter ds) (ys : List (Option D)) (hlen : ys.length = ds.length) (turn : ∀ (i : Nat) d y, ds[i]? = some d → ys[i]? = some y → Turn1 X ρ scope (own.map (·.2)) tg elt ifs d y) (hl : ds.length ≤ sizeLine)
    (hΦ : Φ (.nx (ρ.set i (.ow (.lst (ys.filterMap id)))))) (hy : X.N[i]? = some y := by rfl) (hyl : X.env.scope.names.lookup y = some .local := by rfl)
    (hsw : swapsWith (.ListComp elt [⟨tg, iter, ifs, 0⟩] scope cpos) (some (.Name y py)) pos.line X.env = pure true := by exact sw_true rfl rfl rfl (by decide +kernel)) (hs : ∀ x, foldedSetIterable iter X.env x = pure x := by intro _; rfl) :
    WS X (.Assign [.Name y py] (.ListComp elt [⟨tg, iter, ifs, 0⟩] scope cpos) pos) ρ Φ := fun B0 B σ H0 H Dn j k =>
  ⟨_, ps_setLc hc hN hy hyl hsw pi_star ok (g := GB X scope tg) (tt := TB X scope ifs) (te := EB X scope elt)
    (fun s H C cl fp => ⟨fun pins s1 σ1 H1 v u Q1 I r h => (pg_star (tg := tg)).run pins s1 σ1 H1 v u Q1 I r (h s H C cl fp)⟩)
    (fun s H C cl fp => ⟨fun pins s1 σ1 H1 Q1 I h => by obtain ⟨t, h1, h2⟩ := h s H C cl fp; exact h1.run pins s1 σ1 H1 Q1 I h2⟩)
    (fun s H C cl fp => ⟨fun pins s1 σ1 H1 Q1 I h => (pe_star (e := elt)).run pins s1 σ1 H1 Q1 I (h s H C cl fp)⟩) hs,
   lc_read hi ys hlen turn hl j fun a o H0' H' gg h1 h2 h3 r => k _ hΦ _ H0' H' (j.setNew gg h1 h2 h3 r)⟩
end
/-- a, b, .. = e -/
theorem ws_unpack {tg : Expr} {is : List Nat} (he : ED X ρ e d) (hg : DG X is tg d ρ ρ') (hΦ : Φ (.nx ρ')) (hs : swapsWithSole [tg] e pos.line X.env = pure false := by rfl) (hw : swappedStores [tg] e X.env = pure none := by rfl)
    (h1 : (assignEach [tg] X.env).map (·.2) = [assign tg X.env] := by rfl) : WS X (.Assign [tg] e pos) ρ Φ := fun B0 B σ H0 H Dn j k =>
  ⟨_, ps_asg pe_star pg_star hs hw h1, he B0 B σ H0 H _ j fun v H0' H' g r => hg B0 B σ H0' H' v _ (j.grow g) r fun σ' j' _ => k _ hΦ σ' H0' H' j'⟩
/-- xs.append(e), xs a list of the def's own -/
theorem ws_append (i : Nat) {x : Str} {p1 p2 p3 : Pos} {ds : List D} (hi : ρ[i]? = some (.ow (.lst ds))) (he : ED X ρ e d) (hl : ds.length < sizeLine) (hΦ : Φ (.nx (ρ.set i (.ow (.lst (ds ++ [d]))))))
    (hpe : ∀ {ta : TA}, PA X [e] ta → PS X (.Expr (.Call (.Attribute (.Name x p1) "append" p2) [e] [] p3) pos) (tDrop (tBM X.K "list" rAppend (tVar i) ta))) (hs : starEach [e] X.env = (false, eval e X.env) :: starEach [] X.env := by rfl) :
    WS X (.Expr (.Call (.Attribute (.Name x p1) "append" p2) [e] [] p3) pos) ρ Φ := fun B0 B σ H0 H Dn j k => by
  obtain ⟨ov, e1, a, o, rfl, h1, h2, h3, vs, rfl, r⟩ := j.get hi
  refine ⟨_, hpe pa_star, .ref a, e1, Or.inl ⟨rfl, _, Or.inl (Or.inl h1)⟩, ad_cons (X := X) he ad_nil hs B0 B σ H0 H _ j fun ws G0 G g rr => ?_⟩
  obtain ⟨y, rfl, ry⟩ := rr.one'
  have j1 := j.grow g
  obtain ⟨ov', e1', a', o', e2, h1', _, _, vs', rfl, r'⟩ := j1.get hi
  rw [e1] at e1'; cases e1'; cases e2
  refine ⟨a, vs', y, rfl, rfl, h1', by rw [← DRs.length r']; exact hl, ?_⟩
  exact k _ hΦ _ G0 _ (j1.write hi e1 ⟨_, rfl, DRs.app r' (DRs.one ry)⟩)
/-- for: I by the turn and the slots -/
theorem ws_for {tg iter : Expr} {body : List Stmt} {ds : List D} (hc : X.calm = true) (hi : ID X ρ tg iter ds) (I : Nat → En → Prop) (h0 : I 0 ρ)
    (hs : ∀ i d ρ', ds[i]? = some d → I i ρ' → ∃ is ρ'', DG X is tg d ρ' ρ'' ∧ WSs X body ρ'' (fun o => match o with | .nx r => I (i + 1) r | .ct r => I (i + 1) r | .bk r => Φ (.nx r) | .rt v => Φ (.rt v) | .ro c => Φ (.ro c) | .rc v cs => Φ (.rc v cs))) (hd : ∀ ρ', I ds.length ρ' → Φ (.nx ρ'))
    (hp : PassesOwn (model X.prog X.w) X.A X.env X.xe := by exact PassesOwn.never) (hf : ∀ x, foldedSetIterable iter X.env x = pure x := by intro _; rfl) : WS X (.For tg iter body [] pos) ρ Φ := fun B0 B σ H0 H Dn j k => by
  refine ⟨_, ps_for hp hc pi_star pg_star pss_star hf, hi B0 B σ H0 H _ j fun Jt G0 G g0 ⟨GG, Y, w, hG, hY⟩ => ?_⟩
  have j0 := j.grow g0
  refine for_it w (fun i σ' H1 => ∃ ρ' L0, I i ρ' ∧ J X.K G0 B σ' L0 H1 ρ') ⟨ρ, G0, h0, j0.rebase⟩ (fun i σ' H1 _ ⟨ρ', L0, _, j1⟩ => hG L0 H1 j1.hp.s0 j1.hp.sh) ?_ ?_
  · rintro i x σ1 H1 H1' hi ⟨ρ1, L0, hI, j1⟩ hy
    obtain ⟨d, hd'⟩ : ∃ d, ds[i]? = some d := ⟨ds[i], by simp [hi]⟩
    obtain ⟨L1, g2, rx⟩ := hY i L0 H1 x H1' d hd' j1.hp.s0 j1.hp.sh hy
    obtain ⟨is, ρ2, hg, hb⟩ := hs i d ρ1 hd' hI
    refine hg G0 B σ1 L1 H1' x _ (j1.grow g2) rx fun σ2 j2 _ => ?_
    refine hb G0 B σ2 L1 H1' _ j2 fun o ho => ?_
    cases o with
    | nx r => exact fun σ3 M0 M j3 => ⟨r, M0, ho, j3⟩
    | ct r => exact fun σ3 M0 M j3 => ⟨r, M0, ho, j3⟩
    | bk r => exact fun σ3 M0 M j3 => k _ ho σ3 M0 M (j0.unbase j3)
    | rt v => exact fun v' M0 M g r => k _ ho v' M0 M ⟨j0.hp.s0.trans g.s0, g.sh, g.sB, fun b u e n e' => g.fr b u e n (j0.hp.fr b u e n e')⟩ r
    | ro c => exact fun a o M0 M g h1 h2 h3 r => k _ ho a o M0 M ⟨j0.hp.s0.trans g.s0, g.sh, g.sB, fun b u e n e' => g.fr b u e n (j0.hp.fr b u e n e')⟩ h1 h2 h3 r
    | rc v cs => exact fun a M0 M g h1 h2 r => k _ ho a M0 M ⟨j0.hp.s0.trans g.s0, g.sh, g.sB, fun b u e n e' => g.fr b u e n (j0.hp.fr b u e n e')⟩ h1 h2 r
  · rintro σ1 H1 ⟨ρ1, L0, hI, j1⟩
    exact k _ (hd ρ1 hI) σ1 L0 H1 (j0.unbase j1)
end
end DL
namespace DL
open PySem PySem.Spec PyProof.Rows L2
def en (N : List Str) (ds : List D) : En := ds.map Sl.sh ++ List.replicate (N.length - ds.length) Sl.no
section
variable {P : Program} {w : World} {K : PySem.W.Frag} {mg : Str → Option Value} {base : Heap}
theorem en_kind {N : List Str} {ds : List D} {i : Nat} {s : Sl} (h : (en N ds)[i]? = some s) : s = .no ∨ ∃ d, s = .sh d := by
  unfold en at h
  by_cases hi : i < ds.length
  · rw [List.getElem?_append_left (by simpa using hi), List.getElem?_map, show ds[i]? = some ds[i] by simp [hi]] at h
    cases h; exact .inr ⟨_, rfl⟩
  · rw [List.getElem?_append_right (by simp; omega), List.getElem?_replicate] at h
    split at h
    · cases h; exact .inl rfl
    · cases h
theorem j_start {N : List Str} {H0 H : Hp} {ds : List D} {vs : List V} (s : Same H0 H) (r : DRs K H0 ds vs) (hl : ds.length ≤ N.length) : J K H0 H (L2.start N vs) H0 H (en N ds) := by
  have hlen := DRs.length r
  refine ⟨JH.refl s, by simp [L2.start, en, hlen], fun i sl ov h1 h2 => ?_, fun i j s1 s2 o1 o2 a h1 _ _ _ w _ => absurd w (Owns.none (en_kind h1) a)⟩
  unfold en at h1
  unfold L2.start at h2
  by_cases hi : i < ds.length
  · rw [List.getElem?_append_left (by simpa using hi), List.getElem?_map] at h1
    rw [List.getElem?_append_left (by simp; omega), List.getElem?_map] at h2
    obtain ⟨v, e1, e2⟩ := DRs.get r (show ds[i]? = some ds[i] by simp [hi])
    rw [show ds[i]? = some ds[i] by simp [hi]] at h1
    rw [e1] at h2
    cases h1; cases h2
    exact ⟨v, rfl, e2⟩
  · rw [List.getElem?_append_right (by simp; omega), List.getElem?_replicate] at h1
    split at h1
    · cases h1; trivial
    · cases h1
/-- the context of a def's body -/
abbrev bx (P : Program) (w : World) (K : PySem.W.Frag) (mg : Str → Option Value) (base : Heap) (N : List Str) (qual : Str) (st : Stmt) (f : Addr) (cdv : Value) (A : Around) (outer : List Env) (s : Shared) (H : Hp) (E : XK) : Cx :=
  (cxOf CX0 P w K mg base N qual (defScope st) f cdv A outer s H E).nox
theorem fn_ok {x qual : Str} {st : Stmt} {f : Addr} {fd : FuncData} {N ps : List Str} {k : Nat} {R : List D → D → Prop} (F : Fun K x qual st f fd) (S : FnScope N ps (defScope st)) (hR : ∀ ds d, R ds d → ds.length = ps.length)
    (h : ∀ ds d, R ds d → ∀ (cdv : Value) (A : Around) (outer : List Env) (s : Shared) (H : Hp) (E : XK), Room k (A.deeper (envOfC qual (defScope st) s.heap.objs.size f cdv)) →
      WSs (bx P w K mg base N qual st f cdv A outer s H E) (defBody st) (en N ds) (fun o => o = .rt d ∨ (∃ ρ, o = .nx ρ ∧ d = .non))) : FnOk P w K mg base CX0 (k + 1) f fd ps (spR K R) := by
  refine F.ok S (fun vs H Q E hs => ?_) fun cdv A outer s H vs Q E hr hs => ?_
  · obtain ⟨H0, ds, d, _, r, q, _⟩ := hs
    rw [← DRs.length r]; exact hR ds d q
  · obtain ⟨H0, ds, d, s0, r, q, kk⟩ := hs
    have hN : ds.length ≤ N.length := by
      have h1 := hR ds d q
      have h2 := congrArg List.length S.pre
      rw [List.length_take] at h2
      omega
    obtain ⟨t, h1, h2⟩ := h ds d q cdv A outer s H E hr H0 H (L2.start N vs) H0 H (j_start s0 r hN) (Dn := { nx := fun _ H' => Q .non H', rt := Q }) fun o ho => by
      rcases ho with rfl | ⟨ρ, rfl, rfl⟩
      · exact fun v G0 G g rv => kk v G0 G g rv
      · exact fun σ G0 G j => kk .non G0 G j.hp rfl
    exact ⟨t, h1, h2⟩
/-- a def that gives a new thing of its own -/
def spO (K : PySem.W.Frag) (R : List D → OC → Prop) : Sp := fun vs H Q _ => ∃ H0 ds c, Same H0 H ∧ DRs K H0 ds vs ∧ R ds c ∧ ∀ a o H0' H', JH H0 H H0' H' → H' a = some o → H0' a = none → H a = none → OCR K H0' c o → Q (.ref a) H'
theorem fn_okO {x qual : Str} {st : Stmt} {f : Addr} {fd : FuncData} {N ps : List Str} {k : Nat} {R : List D → OC → Prop} (F : Fun K x qual st f fd) (S : FnScope N ps (defScope st)) (hR : ∀ ds d, R ds d → ds.length = ps.length)
    (h : ∀ ds d, R ds d → ∀ (cdv : Value) (A : Around) (outer : List Env) (s : Shared) (H : Hp) (E : XK), Room k (A.deeper (envOfC qual (defScope st) s.heap.objs.size f cdv)) →
      WSs (bx P w K mg base N qual st f cdv A outer s H E) (defBody st) (en N ds) (fun o => o = .ro d)) : FnOk P w K mg base CX0 (k + 1) f fd ps (spO K R) := by
  refine F.ok S (fun vs H Q E hs => ?_) fun cdv A outer s H vs Q E hr hs => ?_
  · obtain ⟨H0, ds, d, _, r, q, _⟩ := hs
    rw [← DRs.length r]; exact hR ds d q
  · obtain ⟨H0, ds, d, s0, r, q, kk⟩ := hs
    have hN : ds.length ≤ N.length := by
      have h1 := hR ds d q
      have h2 := congrArg List.length S.pre
      rw [List.length_take] at h2
      omega
    obtain ⟨t, h1, h2⟩ := h ds d q cdv A outer s H E hr H0 H (L2.start N vs) H0 H (j_start s0 r hN) (Dn := { nx := fun _ H' => Q .non H', rt := Q }) fun o ho => by
      subst ho
      exact fun a o G0 G g e1 e2 e3 rv => kk a o G0 G g e1 e2 e3 rv
    exact ⟨t, h1, h2⟩
/-- what a law promises -/
inductive RLaw : List D → D → Prop where
  | mk (ns : List Int) (h : ns.length ≤ 63) : RLaw [.lst (ns.map .int)] (.bl true)
def spLaw (K : PySem.W.Frag) : Sp := fun vs H Q _ => ∃ (a : Addr) (ns : List Int), vs = [.ref a] ∧ SqL K H a (ns.map V.int) ∧ ns.length ≤ 63 ∧ ∀ H', Q (.bl true) H'
theorem law_sp {k : Nat} {f : Addr} {fd : FuncData} {ps : List Str} (F : FnOk P w K mg base CX0 k f fd ps (spR K RLaw)) : FnOk P w K mg base CX0 k f fd ps (spLaw K) :=
  F.imp fun vs H Q E ⟨a, ns, e, hS, hl, q⟩ => ⟨H, [.lst (ns.map .int)], .bl true, Same.refl H, by rw [e]; exact ⟨.ref a, [], rfl, ⟨a, _, rfl, hS, DRs.ofInts ns⟩, rfl⟩, ⟨ns, hl⟩, fun r H0' H' g rr => by
    cases (show r = .bl true from rr); exact q H'⟩
theorem walk_law {l : PySem.W.OpenLaw} {q : Program} {loose : List Str} {XP : (Str → Option Value) → Heap → Prop} {YP : World → Heap → Prop} {d : DefRec} {K : Params → PySem.W.Frag} {k : Nat} (hn : l.most = some 63) (hr : Room k callerA) (hdf : d.params.defaults = [])
    (hY : ∀ (w : World) (h : Heap), YP w h → (K w.params).In h)
    (F : ∀ (w : World) (mg : Str → Option Value) (fa : Addr) (h : Heap), (K w.params).In h → h.Ns mainGlobals mg → mg d.name = some (.ref fa) →
      ∃ fd : FuncData, (∀ (s : Shared) (u : Value), BindsTo s fd ⟨[u], []⟩ [("script", u)]) ∧ ∀ base : Heap, (K w.params).In base → base.Ns mainGlobals mg → FnOk l.prog w (K w.params) mg base CX0 k fa fd ["script"] (spR (K w.params) RLaw)) :
    PySem.W.WalkO q loose XP YP l.row.toRowW d [] (fun f vs => PySem.call f vs) :=
  L2.walk_of (n := 63) (k := k) (x := "script") (CX := fun _ => CX0) (sp := fun w => spLaw (K w.params)) hn (by decide) hdf hr hY
    (fun w mg fa h KX G e => let ⟨fd, h1, h2⟩ := F w mg fa h KX G e; ⟨fd, h1, fun base b1 b2 => law_sp (h2 base b1 b2)⟩) (fun _ _ a ns hl _ hS => ⟨a, ns, rfl, hS, hl, fun _ => rfl⟩) fun _ _ _ _ _ z => z
end
section
variable {X : Cx} {ρ : En}
/-- an item of a list, a tuple, a text -/
inductive IX : D → D → D → Prop where
  | t {ds i d} (h : atI ds i = some d) : IX (.tup ds) (.int i) d
  | l {ds i d} (h : atI ds i = some d) : IX (.lst ds) (.int i) d
theorem IX.t0 {a r} : IX (.tup (a :: r)) (.int 0) a := .t (by unfold atI ixN; simp only [List.length_cons]; rw [if_pos (by decide), if_pos (by omega)]; rfl)
theorem IX.t1 {a b r} : IX (.tup (a :: b :: r)) (.int 1) b := .t (by unfold atI ixN; simp only [List.length_cons]; rw [if_pos (by decide), if_pos (by omega)]; rfl)
theorem IX.t2 {a b c r} : IX (.tup (a :: b :: c :: r)) (.int 2) c := .t (by unfold atI ixN; simp only [List.length_cons]; rw [if_pos (by decide), if_pos (by omega)]; rfl)
theorem IX.t3 {a b c d r} : IX (.tup (a :: b :: c :: d :: r)) (.int 3) d := .t (by unfold atI ixN; simp only [List.length_cons]; rw [if_pos (by decide), if_pos (by omega)]; rfl)
theorem IX.t4 {a b c d e r} : IX (.tup (a :: b :: c :: d :: e :: r)) (.int 4) e := .t (by unfold atI ixN; simp only [List.length_cons]; rw [if_pos (by decide), if_pos (by omega)]; rfl)
theorem IX.t5 {a b c d e f r} : IX (.tup (a :: b :: c :: d :: e :: f :: r)) (.int 5) f := .t (by unfold atI ixN; simp only [List.length_cons]; rw [if_pos (by decide), if_pos (by omega)]; rfl)
theorem IX.l0 {a r} : IX (.lst (a :: r)) (.int 0) a := .l (by unfold atI ixN; simp only [List.length_cons]; rw [if_pos (by decide), if_pos (by omega)]; rfl)
theorem IX.l1 {a b r} : IX (.lst (a :: b :: r)) (.int 1) b := .l (by unfold atI ixN; simp only [List.length_cons]; rw [if_pos (by decide), if_pos (by omega)]; rfl)
theorem IX.l2 {a b c r} : IX (.lst (a :: b :: c :: r)) (.int 2) c := .l (by unfold atI ixN; simp only [List.length_cons]; rw [if_pos (by decide), if_pos (by omega)]; rfl)
theorem ed_ix {a b : Expr} {d1 d2 d : D} {pos : Pos} (ha : ED X ρ a d1) (hb : ED X ρ b d2) (h : IX d1 d2 d) (hs : PlainIx b := by exact fun _ _ => rfl) : ED X ρ (.Subscript a b pos) d := by
  cases h with
  | t h => exact ix_t ha hb h hs
  | l h => exact ix_l ha hb h hs
theorem atI_nn {α : Type} {xs : List α} {i : Int} {v : α} (h0 : 0 ≤ i) (h : xs[i.toNat]? = some v) : atI xs i = some v := by
  have e : ((i.toNat : Nat) : Int) = i := Int.toNat_of_nonneg h0
  rw [← e]; exact atI_nat h
/-- isinstance of a built-in class -/
def tyD : D → Option String
  | .non => some "NoneType" | .bl _ => some "bool" | .int _ => some "int" | .str _ => some "str"
  | .lst _ => some "list" | .tup _ => some "tuple" | .dk _ _ => some "dict" | .dt _ _ => none | .obj _ _ _ => none | .ad _ => none | .ptp _ => none | .etp _ => none | .exc _ _ _ _ => none | .ty _ => none
theorem tyx_of {K : PySem.W.Frag} {H : Hp} {d : D} {v : V} {n : String} (h : DR K H d v) (hn : tyD d = some n) (hnn : n ≠ "NoneType") : TyX K H v (.type n) := by
  cases d with
  | non => cases hn; exact absurd rfl hnn
  | bl _ => cases (show v = .bl _ from h); cases hn; exact .base (.bl _)
  | int _ => cases (show v = .int _ from h); cases hn; exact .base (.int _)
  | str _ => cases (show v = .str _ from h); cases hn; exact .base (.str _)
  | lst _ =>
    obtain ⟨a, vs, rfl, h1, _⟩ := h
    cases hn
    rcases h1 with (h1 | ⟨o, h1⟩) | ⟨o, its, n, h1, h2, _⟩
    · exact .base (.lst h1)
    · exact .base (.frz h1)
    · exact .kList h1 h2
  | tup _ =>
    obtain ⟨a, vs, rfl, h1, _⟩ := h
    cases hn
    rcases h1 with (h1 | ⟨o, h1⟩) | ⟨o, its, n, h1, h2, _⟩
    · exact .base (.tup h1)
    · exact .fTuple h1
    · exact .kTuple h1 h2
  | dk _ _ =>
    obtain ⟨a, vs, rfl, h1, _⟩ := h
    cases hn
    rcases h1 with h1 | ⟨o, h1⟩
    · exact .base (.dK h1)
    · exact .fDict h1
  | dt _ _ => cases hn
  | obj _ _ _ => cases hn
  | ad _ => cases hn
  | ptp _ => cases hn
  | etp _ => cases hn
  | exc _ _ _ _ => cases hn
  | ty _ => cases hn
theorem bc_isi {d : D} {n c : String} {b : Bool} (hn : tyD d = some n) (h : kitB n c = some b) (hnn : n ≠ "NoneType" := by decide) : BC X (.builtin "isinstance") [d, .ty c] (.bl b) :=
  bc_keep call_isi _ (fun _ => rfl) fun H0 H vs _ s r q => by
    obtain ⟨x, y, rfl, h1, h2⟩ := r.two
    cases (show y = .ty c from h2)
    exact ⟨x, .ty c, .type n, .type c, b, rfl, .ty c, tyx_of (DR.mono s _ _ h1) hn hnn, kit_ty h, q⟩
theorem ed_ty {x : Str} {n : String} {pos : Pos} (hg : Gl X x) (hm : X.mg x = none) (hv : bootBuiltins x = some (.type n)) (hn : x ≠ "__name__" := by decide) (hd : (x == ("__debug__" : Str)) = false := by decide) : ED X ρ (.Name x pos) (.ty n) :=
  fun B0 B σ H0 H Q j k => RE.of (pe_bltn (v := .ty n) hg hm hv rfl hn hd) (k _ H0 H (JH.refl j.same) rfl)
theorem filterMap_some {α β : Type} (f : α → β) : ∀ xs : List α, (xs.map fun x => some (f x)).filterMap id = xs.map f
  | [] => rfl
  | x :: xs => by simp [filterMap_some f xs]
theorem filterMap_if {α β : Type} (p : α → Bool) (f : α → β) : ∀ xs : List α, (xs.map fun x => if p x = true then some (f x) else none).filterMap id = (xs.filter p).map f
  | [] => rfl
  | x :: xs => by
    have ih := filterMap_if p f xs
    by_cases h : p x = true
    · simp only [List.map_cons, if_pos h, List.filter_cons_of_pos h, List.filterMap_cons, id, ih]
    · simp only [List.map_cons, if_neg h, List.filter_cons_of_neg h, List.filterMap_cons, id, ih]
section
variable {elt tg iter : Expr} {ifs : List Expr} {scope : Scope} {ds : List D} {cpos pos : Pos} {α β : Type} {Φ : Out → Prop}
theorem turns_map {own : List (Str × Nat)} {xs : List α} {enc : α → D} {f : α → D} (he : ds = xs.map enc) (turn : ∀ x ∈ xs, Turn1 X ρ scope (own.map (·.2)) tg elt ifs (enc x) (some (f x))) :
    ∀ (i : Nat) d y, ds[i]? = some d → (xs.map fun x => some (f x))[i]? = some y → Turn1 X ρ scope (own.map (·.2)) tg elt ifs d y := by
  subst he
  intro i d y h1 h2
  rw [List.getElem?_map] at h1 h2
  cases q : xs[i]? with
  | none => rw [q] at h1; cases h1
  | some x =>
    rw [q] at h1 h2
    cases h1; cases h2
    exact turn x (List.mem_of_getElem? q)
theorem turns_if {own : List (Str × Nat)} {xs : List α} {enc : α → D} {p : α → Bool} {f : α → D} (he : ds = xs.map enc) (turn : ∀ x ∈ xs, Turn1 X ρ scope (own.map (·.2)) tg elt ifs (enc x) (if p x = true then some (f x) else none)) :
    ∀ (i : Nat) d y, ds[i]? = some d → (xs.map fun x => if p x = true then some (f x) else none)[i]? = some y → Turn1 X ρ scope (own.map (·.2)) tg elt ifs d y := by
  subst he
  intro i d y h1 h2
  rw [List.getElem?_map] at h1 h2
  cases q : xs[i]? with
  | none => rw [q] at h1; cases h1
  | some x =>
    rw [q] at h1 h2
    cases h1; cases h2
    exact turn x (List.mem_of_getElem? q)
/-- [f x for x in xs] -/
theorem eo_map (own : List (Str × Nat)) (xs : List α) (enc : α → D) (f : α → D) (hc : X.calm = true) (hN : X.N.Nodup) (ok : BlkOk X.N X.env.scope scope own) (hi : ID X ρ tg iter ds) (he : ds = xs.map enc) (turn : ∀ x ∈ xs, Turn1 X ρ scope (own.map (·.2)) tg elt ifs (enc x) (some (f x))) (hl : xs.length ≤ sizeLine)
    (hs : ∀ x, foldedSetIterable iter X.env x = pure x := by intro _; rfl) : EO X ρ (.ListComp elt [⟨tg, iter, ifs, 0⟩] scope cpos) (.lst (xs.map f)) := by
  have h := eo_lc (cpos := cpos) own hc hN ok hi (xs.map fun x => some (f x)) (by rw [he]; simp) (turns_map he turn) (by rw [he]; simpa using hl) hs
  rwa [filterMap_some] at h
theorem ws_setFilter (i : Nat) (own : List (Str × Nat)) (xs : List α) (enc : α → D) (p : α → Bool) (f : α → D) {y : Str} {py : Pos} (hc : X.calm = true) (hN : X.N.Nodup) (ok : BlkOk X.N X.env.scope scope own) (hi : ID X ρ tg iter ds) (he : ds = xs.map enc) (turn : ∀ x ∈ xs, Turn1 X ρ scope (own.map (·.2)) tg elt ifs (enc x) (if p x = true then some (f x) else none)) (hl : xs.length ≤ sizeLine)
    (hΦ : Φ (.nx (ρ.set i (.ow (.lst ((xs.filter p).map f)))))) (hy : X.N[i]? = some y := by rfl) (hyl : X.env.scope.names.lookup y = some .local := by rfl)
    (hsw : swapsWith (.ListComp elt [⟨tg, iter, ifs, 0⟩] scope cpos) (some (.Name y py)) pos.line X.env = pure true := by exact sw_true rfl rfl rfl (by decide +kernel)) (hs : ∀ x, foldedSetIterable iter X.env x = pure x := by intro _; rfl) :
    WS X (.Assign [.Name y py] (.ListComp elt [⟨tg, iter, ifs, 0⟩] scope cpos) pos) ρ Φ :=
  ws_setLc i own hc hN ok hi (xs.map fun x => if p x = true then some (f x) else none) (by rw [he]; simp) (turns_if he turn) (by rw [he]; simpa using hl) (by rw [filterMap_if]; exact hΦ) hy hyl hsw hs
/-- for x in xs: I by the turn and the slots -/
theorem ws_forT (xs : List α) (enc : α → D) {body : List Stmt} (hc : X.calm = true) (hi : ID X ρ tg iter ds) (he : ds = xs.map enc) (I : Nat → En → Prop) (h0 : I 0 ρ)
    (hs : ∀ i x ρ', xs[i]? = some x → I i ρ' → ∃ is ρ'', DG X is tg (enc x) ρ' ρ'' ∧ WSs X body ρ'' (fun o => match o with | .nx r => I (i + 1) r | .ct r => I (i + 1) r | .bk r => Φ (.nx r) | .rt v => Φ (.rt v) | .ro c => Φ (.ro c) | .rc v cs => Φ (.rc v cs))) (hd : ∀ ρ', I xs.length ρ' → Φ (.nx ρ'))
    (hp : PassesOwn (model X.prog X.w) X.A X.env X.xe := by exact PassesOwn.never) (hf : ∀ x, foldedSetIterable iter X.env x = pure x := by intro _; rfl) : WS X (.For tg iter body [] pos) ρ Φ := by
  subst he
  refine ws_for hc hi I h0 (fun i d ρ' h1 h2 => ?_) (by simpa using hd) hp hf
  rw [List.getElem?_map] at h1
  cases q : xs[i]? with
  | none => rw [q] at h1; cases h1
  | some x =>
    rw [q] at h1
    cases h1
    exact hs i x ρ' q h2
end
def tru : D → Option Bool
  | .non => some false | .bl b => some b | .int i => some (i != 0) | .lst ds => some (!ds.isEmpty) | .tup ds => some (!ds.isEmpty) | _ => none
theorem DRs.emp {K : PySem.W.Frag} {H : Hp} {ds : List D} {vs : List V} (h : DRs K H ds vs) : vs.isEmpty = ds.isEmpty := by
  cases ds with
  | nil => cases (show vs = [] from h); rfl
  | cons d ds => obtain ⟨v, r, rfl, _⟩ := h; rfl
theorem td_truth {e : Expr} {d : D} {k : Bool} (h : ED X ρ e d) (hk : tru d = some k) (he : ∀ whole, isTrue e X.env whole = (do let v ← whole; standAt e.pos; holding [v] (truthy v)) := by intro _; rfl) : TD X ρ e k := fun B0 B σ H0 H Q j kk =>
  RT.of (pt_truth pe_star he) (h B0 B σ H0 H _ j fun v H0' H' g r => by
    cases d with
    | non => cases (show v = .non from r); cases hk; exact ⟨_, rfl, kk _ _ g⟩
    | bl _ => cases (show v = .bl _ from r); cases hk; exact ⟨_, rfl, kk _ _ g⟩
    | int _ => cases (show v = .int _ from r); cases hk; exact ⟨_, rfl, kk _ _ g⟩
    | lst ds =>
      obtain ⟨a, vs, rfl, h1, h2⟩ := r
      cases hk
      exact ⟨_, .inl ⟨vs, g.sh.seq h1, rfl⟩, by rw [h2.emp]; exact kk _ _ g⟩
    | tup ds =>
      obtain ⟨a, vs, rfl, h1, h2⟩ := r
      cases hk
      exact ⟨_, .inr (.inl ⟨vs, Same.seqT g.sh h1, rfl⟩), by rw [h2.emp]; exact kk _ _ g⟩
    | str _ => cases hk
    | ty _ => cases hk
    | dk _ _ => cases hk
    | dt _ _ => cases hk
    | obj _ _ _ => cases hk
    | ad _ => cases hk
    | ptp _ => cases hk
    | etp _ => cases hk
    | exc _ _ _ _ => cases hk)
theorem fn_wrap {P : Program} {w : World} {K : PySem.W.Frag} {mg : Str → Option Value} {base : Heap} {x : Str} {f : Addr} {fd : FuncData} {ps : List Str} {k : Nat} {R : List D → D → Prop} (hm : mg x = some (.ref f)) (hb : Binds K fd ps []) (kp : PySem.W.keepIn K (.ref f) = true) (F : FnOk P w K mg base CX0 k f fd ps (spR K R)) :
    Fn P w K mg base x k R := ⟨⟨f, fd, ps, F, hm, kp, hb⟩⟩
theorem b2_powL {i j n : Int} (h : CPow i j) (e : i ^ j.toNat = n) : B2 X .Pow (.int i) (.int j) (.int n) := e ▸ b2_pow h
theorem turn_if {Y : Cx} {scope : Scope} {vs : List Nat} {tg elt : Expr} {ifs : List Expr} {d y : D} {p : Bool} (h1 : p = true → Turn1 Y ρ scope vs tg elt ifs d (some y)) (h2 : p = false → Turn1 Y ρ scope vs tg elt ifs d none) :
    Turn1 Y ρ scope vs tg elt ifs d (if p = true then some y else none) := by
  cases p with
  | true => exact h1 rfl
  | false => exact h2 rfl
inductive Part (X : Cx) (ρ : En) : Option Expr → Option Int → Prop where
  | none : Part X ρ none none
  | some {e i} (h : ED X ρ e (.int i)) : Part X ρ (some e) (some i)
theorem no_part : Part X ρ none none := .none
theorem some_part {e i} (h : ED X ρ e (.int i)) : Part X ρ (some e) (some i) := .some h
def RP (X : Cx) (e : Option Expr) : TO := fun σ H Q => ∃ t, PO X e t ∧ t σ H Q
theorem po_star {e} : PO X e (RP X e) := ⟨fun pins s σ H Q I ⟨_, h, q⟩ => h.run pins s σ H Q I q⟩
theorem Part.run {e : Option Expr} {o : Option Int} (h : Part X ρ e o) {B0 B : Hp} {σ : L2.St} {H0 H : Hp} {Q : Option Int → Hp → Prop} (j : J X.K B0 B σ H0 H ρ) (k : ∀ H0' H', JH H0 H H0' H' → Q o H') : RP X e σ H Q := by
  cases h with
  | none => exact ⟨_, po_none, k H0 H (JH.refl j.same)⟩
  | some h => exact ⟨_, po_some pe_star, h B0 B σ H0 H _ j fun v H0' H' g r => ⟨_, r, k H0' H' g⟩⟩
def cutD (xs : List D) (lo hi : Option Int) : List D := (xs.drop (HT.sIx xs.length 0 lo)).take (HT.sIx xs.length xs.length hi - HT.sIx xs.length 0 lo)
theorem DRs.cut {K : PySem.W.Frag} {H : Hp} {ds : List D} {vs : List V} (h : DRs K H ds vs) (lo hi : Option Int) : DRs K H (cutD ds lo hi) (cutV vs lo hi) := by
  unfold cutD cutV
  rw [← DRs.length h]
  exact DRs.take _ (DRs.drop _ h)
theorem eo_slice {e : Expr} {lo hi : Option Expr} {p q : Option Int} {ds : List D} {p2 pos : Pos} (he : ED X ρ e (.lst ds)) (hl : Part X ρ lo p) (hh : Part X ρ hi q) : EO X ρ (.Subscript e (.Slice lo hi none p2) pos) (.lst (cutD ds p q)) := fun B0 B σ H0 H Q j k =>
  RE.of (pe_slice sl_list pe_star po_star po_star) (he B0 B σ H0 H _ j fun v G0 G g1 r => hl.run (j.grow g1) fun L0 L g2 => hh.run ((j.grow g1).grow g2) fun M0 M g3 => by
    obtain ⟨a, vs, rfl, h1, h2⟩ := r
    have g := g2.trans g3
    exact ⟨a, vs, rfl, g.sh.seq (g.s0.seq h1), fun p hp => k p _ M0 _ ((g1.trans g).trans (JH.own g.sh hp)) upd_same (g.sh.free hp) ((g1.trans g).sB.free hp) ⟨_, rfl, DRs.cut (DRs.mono g.s0 _ _ h2) _ _⟩⟩)
theorem rngD0 (n : Nat) : rngD 0 n = (List.range n).map fun (i : Nat) => D.int (i : Int) := by
  unfold rngD
  refine List.map_congr_left fun i _ => ?_
  rw [Int.zero_add]
/-- some slots changed -/
def upds (ρ : En) (l : List (Nat × Sl)) : En := l.foldl (fun r p => r.set p.1 p.2) ρ
/-- for x in xs: what changes from turn to turn is told slot by slot: G, of the turn and of what one doesn't care for (V reads it off) -/
theorem ws_forU {α U : Type} {tg iter : Expr} {ds : List D} {pos : Pos} {Φ : Out → Prop} (xs : List α) (enc : α → D) {body : List Stmt} (hc : X.calm = true) (hi : ID X ρ tg iter ds) (he : ds = xs.map enc) (G : Nat → U → List (Nat × Sl)) (V : En → U) (P : Nat → Prop) (hρ : upds ρ (G 0 (V ρ)) = ρ) (h0 : P 0)
    (hs : ∀ i x u, xs[i]? = some x → P i → ∃ is ρ'', DG X is tg (enc x) (upds ρ (G i u)) ρ'' ∧ WSs X body ρ'' (fun o => match o with | .nx r => upds ρ (G (i + 1) (V r)) = r ∧ P (i + 1) | .ct r => upds ρ (G (i + 1) (V r)) = r ∧ P (i + 1) | .bk r => Φ (.nx r) | .rt v => Φ (.rt v) | .ro c => Φ (.ro c) | .rc v cs => Φ (.rc v cs)))
    (hd : ∀ u, P xs.length → Φ (.nx (upds ρ (G xs.length u))))
    (hp : PassesOwn (model X.prog X.w) X.A X.env X.xe := by exact PassesOwn.never) (hf : ∀ x, foldedSetIterable iter X.env x = pure x := by intro _; rfl) : WS X (.For tg iter body [] pos) ρ Φ := by
  refine ws_forT xs enc hc hi he (fun i r => (∃ u, upds ρ (G i u) = r) ∧ P i) ⟨⟨V ρ, hρ⟩, h0⟩ (fun i x r hx hI => ?_) (fun r hI => ?_) hp hf
  · obtain ⟨⟨u, rfl⟩, p⟩ := hI
    obtain ⟨is, r2, h1, h2⟩ := hs i x u hx p
    refine ⟨is, r2, h1, ws_mono h2 fun o ho => ?_⟩
    cases o with
    | nx r => exact ⟨⟨_, ho.1⟩, ho.2⟩
    | ct r => exact ⟨⟨_, ho.1⟩, ho.2⟩
    | bk r => exact ho
    | rt v => exact ho
    | ro c => exact ho
    | rc v cs => exact ho
  · obtain ⟨⟨u, rfl⟩, p⟩ := hI
    exact hd u p
end
theorem bb_len : bootBuiltins (PySem.Str.ofString "len") = some (.builtin "len") := by decide +kernel
theorem bb_min : bootBuiltins (PySem.Str.ofString "min") = some (.builtin "min") := by decide +kernel
theorem bb_max : bootBuiltins (PySem.Str.ofString "max") = some (.builtin "max") := by decide +kernel
theorem bb_all : bootBuiltins (PySem.Str.ofString "all") = some (.builtin "all") := by decide +kernel
theorem bb_isinstance : bootBuiltins (PySem.Str.ofString "isinstance") = some (.builtin "isinstance") := by decide +kernel
theorem bb_sorted : bootBuiltins (PySem.Str.ofString "sorted") = some (.builtin "sorted") := by decide +kernel
theorem bb_int : bootBuiltins (PySem.Str.ofString "int") = some (.type "int") := by decide +kernel
theorem bb_tuple : bootBuiltins (PySem.Str.ofString "tuple") = some (.type "tuple") := by decide +kernel
theorem bb_list : bootBuiltins (PySem.Str.ofString "list") = some (.type "list") := by decide +kernel
theorem bb_str : bootBuiltins (PySem.Str.ofString "str") = some (.type "str") := by decide +kernel
theorem bb_bool : bootBuiltins (PySem.Str.ofString "bool") = some (.type "bool") := by decide +kernel
end DL
namespace DL
open PySem PySem.Spec PyProof.Rows L2
/-- data of ints and short texts, n deep -/
def smallStr (x : Str) : Prop := PyData.strOk x = true
inductive Cm : Nat → D → Prop where
  | int {n i} : Cm n (.int i)
  | str {n x} (h : smallStr x) : Cm n (.str x)
  | tup {n ds} (h : ∀ d ∈ ds, Cm n d) : Cm (n + 1) (.tup ds)
  | lst {n ds} (h : ∀ d ∈ ds, Cm n d) : Cm (n + 1) (.lst ds)
theorem Cm.mono {n m : Nat} (h : n ≤ m) {d : D} (c : Cm n d) : Cm m d := by
  induction c generalizing m with
  | int => exact .int
  | str q => exact .str q
  | tup _ ih =>
    obtain ⟨m, rfl⟩ : ∃ m', m = m' + 1 := ⟨m - 1, by omega⟩
    exact .tup fun d hd => ih d hd (by omega)
  | lst _ ih =>
    obtain ⟨m, rfl⟩ : ∃ m', m = m' + 1 := ⟨m - 1, by omega⟩
    exact .lst fun d hd => ih d hd (by omega)
theorem plains_iff : ∀ {ds : List D}, (∀ d ∈ ds, d.plain = true) → D.plains ds = true
  | [], _ => by simp [D.plains]
  | d :: ds, h => by simp only [D.plains, Bool.and_eq_true]; exact ⟨h d (by simp), plains_iff fun e he => h e (by simp [he])⟩
theorem lays_iff : ∀ {ds : List D}, (∀ d ∈ ds, d.py.canLay0 = true) → PyData.canLayAll0 (D.pys ds) = true
  | [], _ => by simp [D.pys, PyData.canLayAll0]
  | d :: ds, h => by simp only [D.pys, PyData.canLayAll0, Bool.and_eq_true]; exact ⟨h d (by simp), lays_iff fun e he => h e (by simp [he])⟩
theorem depths_le : ∀ {ds : List D} {n : Nat}, (∀ d ∈ ds, d.py.depth ≤ n) → PyData.depthAll (D.pys ds) ≤ n
  | [], n, _ => by simp [D.pys, PyData.depthAll]
  | d :: ds, n, h => by
    simp only [D.pys, PyData.depthAll]
    have h1 := h d (by simp)
    have h2 := depths_le (ds := ds) (n := n) fun e he => h e (by simp [he])
    omega
theorem Cm.plain {n : Nat} {d : D} (c : Cm n d) : d.plain = true := by
  induction c with
  | int => simp [D.plain]
  | str _ => simp [D.plain]
  | tup _ ih => simp only [D.plain]; exact plains_iff ih
  | lst _ ih => simp only [D.plain]; exact plains_iff ih
theorem Cm.lay {n : Nat} {d : D} (c : Cm n d) : d.py.canLay0 = true := by
  induction c with
  | int => simp [D.py, PyData.canLay0]
  | str h => simp only [D.py, PyData.canLay0]; exact h
  | tup _ ih => simp only [D.py, PyData.canLay0]; exact lays_iff ih
  | lst _ ih => simp only [D.py, PyData.canLay0]; exact lays_iff ih
theorem Cm.depth {n : Nat} {d : D} (c : Cm n d) : d.py.depth ≤ n + 1 := by
  induction c with
  | int => simp [D.py, PyData.depth]
  | str _ => simp [D.py, PyData.depth]
  | tup _ ih => simp only [D.py, PyData.depth]; have := depths_le ih; omega
  | lst _ ih => simp only [D.py, PyData.depth]; have := depths_le ih; omega
theorem Cm.cmp {n : Nat} {d : D} (c : Cm n d) (hn : n ≤ 63) : Cmp d := ⟨c.plain, by
  unfold SeqAt.shaped
  rw [c.lay]
  have := c.depth
  simp; omega⟩
theorem Cm.inv {n : Nat} {d : D} (c : Cm n d) : (∃ i, d = .int i) ∨ (∃ x, d = .str x) ∨ (∃ ds m, d = .tup ds ∧ n = m + 1 ∧ ∀ e ∈ ds, Cm m e) ∨ (∃ ds m, d = .lst ds ∧ n = m + 1 ∧ ∀ e ∈ ds, Cm m e) := by
  cases c with
  | int => exact .inl ⟨_, rfl⟩
  | str _ => exact .inr (.inl ⟨_, rfl⟩)
  | tup h => exact .inr (.inr (.inl ⟨_, _, rfl, rfl, h⟩))
  | lst h => exact .inr (.inr (.inr ⟨_, _, rfl, rfl, h⟩))
theorem eqvs_iff {n m : Nat} (ih : ∀ d e, Cm n d → Cm m e → (PyData.eqv d.py e.py = true ↔ d = e)) : ∀ (ds es : List D), (∀ d ∈ ds, Cm n d) → (∀ e ∈ es, Cm m e) → (PyData.eqvAll (D.pys ds) (D.pys es) = true ↔ ds = es)
  | [], [], _, _ => by simp [D.pys, PyData.eqvAll]
  | [], e :: es, _, _ => by simp [D.pys, PyData.eqvAll]
  | d :: ds, [], _, _ => by simp [D.pys, PyData.eqvAll]
  | d :: ds, e :: es, h1, h2 => by
    have h3 := eqvs_iff ih ds es (fun x hx => h1 x (by simp [hx])) (fun x hx => h2 x (by simp [hx]))
    have h4 := ih d e (h1 d (by simp)) (h2 e (by simp))
    simp only [D.pys, PyData.eqvAll, Bool.and_eq_true, h3, h4, List.cons.injEq]
theorem eqv_iff : ∀ (n m : Nat) (d e : D), Cm n d → Cm m e → (PyData.eqv d.py e.py = true ↔ d = e)
  | n, m, d, e, c, c' => by
    rcases c.inv with ⟨i, rfl⟩ | ⟨x, rfl⟩ | ⟨ds, k, rfl, rfl, h⟩ | ⟨ds, k, rfl, rfl, h⟩ <;> rcases c'.inv with ⟨j, rfl⟩ | ⟨y, rfl⟩ | ⟨es, l, rfl, rfl, h'⟩ | ⟨es, l, rfl, rfl, h'⟩
    · simp [D.py, PyData.eqv]
    · simp [D.py, PyData.eqv]
    · simp [D.py, PyData.eqv]
    · simp [D.py, PyData.eqv]
    · simp [D.py, PyData.eqv]
    · simp [D.py, PyData.eqv]
    · simp [D.py, PyData.eqv]
    · simp [D.py, PyData.eqv]
    · simp [D.py, PyData.eqv]
    · simp [D.py, PyData.eqv]
    · simp only [D.py, PyData.eqv, D.tup.injEq]
      exact eqvs_iff (fun d e c c' => eqv_iff k l d e c c') ds es h h'
    · simp [D.py, PyData.eqv]
    · simp [D.py, PyData.eqv]
    · simp [D.py, PyData.eqv]
    · simp [D.py, PyData.eqv]
    · simp only [D.py, PyData.eqv, D.lst.injEq]
      exact eqvs_iff (fun d e c c' => eqv_iff k l d e c c') ds es h h'
theorem Cm.ints {n : Nat} {ns : List Int} : ∀ d ∈ ns.map D.int, Cm n d := fun d hd => by
  obtain ⟨i, _, rfl⟩ := List.mem_map.mp hd
  exact .int
theorem Cm.all_cons {n : Nat} {d : D} {ds : List D} (h : Cm n d) (r : ∀ e ∈ ds, Cm n e) : ∀ e ∈ d :: ds, Cm n e := fun e he => by
  rcases List.mem_cons.mp he with rfl | he
  · exact h
  · exact r e he
section
variable {X : Cx} {ρ : En}
theorem c2_eqC {n m : Nat} {d e : D} {k : Bool} (hu : X.A.units + 64 < cLine) (c : Cm n d) (c' : Cm m e) (hk : k = true ↔ d = e) (hn : n ≤ 63 := by decide) (hm : m ≤ 63 := by decide) : C2 X .Eq d e (.bl k) := by
  refine c2_eqD hu (c.cmp hn) (c'.cmp hm) ?_
  have h := eqv_iff n m d e c c'
  cases k with
  | true => exact h.mpr (hk.mp rfl)
  | false =>
    cases q : PyData.eqv d.py e.py with
    | false => rfl
    | true => exact absurd (hk.mpr (h.mp q)) (by simp)
theorem c2_neC {n m : Nat} {d e : D} {k : Bool} (hu : X.A.units + 64 < cLine) (c : Cm n d) (c' : Cm m e) (hk : k = true ↔ d = e) (hn : n ≤ 63 := by decide) (hm : m ≤ 63 := by decide) : C2 X .NotEq d e (.bl (!k)) := by
  refine c2_neD hu (c.cmp hn) (c'.cmp hm) ?_
  have h := eqv_iff n m d e c c'
  cases k with
  | true => exact h.mpr (hk.mp rfl)
  | false =>
    cases q : PyData.eqv d.py e.py with
    | false => rfl
    | true => exact absurd (hk.mpr (h.mp q)) (by simp)
def KD (K : PySem.W.Frag) (d : D) (u : Value) : Prop := ∃ v, RelV v u ∧ ∀ H, DR K H d v
def KDs (K : PySem.W.Frag) (ds : List D) (us : List Value) : Prop := ∃ vs, Vals vs us ∧ ∀ H, DRs K H ds vs
theorem kd_int {K : PySem.W.Frag} {i : Int} {t : Tok} : KD K (.int i) (.int i t) := ⟨.int i, ⟨t, rfl⟩, fun _ => rfl⟩
theorem kd_bl {K : PySem.W.Frag} {b : Bool} : KD K (.bl b) (.bool b) := ⟨.bl b, rfl, fun _ => rfl⟩
theorem kd_str {K : PySem.W.Frag} {x : Str} {t : Tok} : KD K (.str x) (.str x t) := ⟨.str x, ⟨t, rfl⟩, fun _ => rfl⟩
theorem kds_nil {K : PySem.W.Frag} : KDs K [] [] := ⟨[], .nil, fun _ => rfl⟩
theorem kds_cons {K : PySem.W.Frag} {d : D} {ds : List D} {u : Value} {us : List Value} (h : KD K d u) (r : KDs K ds us) : KDs K (d :: ds) (u :: us) := by
  obtain ⟨v, h1, h2⟩ := h
  obtain ⟨vs, h3, h4⟩ := r
  exact ⟨v :: vs, .cons h1 h3, fun H => ⟨v, vs, rfl, h2 H, h4 H⟩⟩
theorem kd_tup {K : PySem.W.Frag} {a : Addr} {o : Obj} {ds : List D} {its : Array Value} {n : Nat} (l : K.lookup a = some o) (c : o.cls = .type "tuple") (e : o.data = .seq its n) (z : its.size ≤ sizeLine) (r : KDs K ds its.toList) : KD K (.tup ds) (.ref a) := by
  obtain ⟨vs, h1, h2⟩ := r
  exact ⟨.ref a, rfl, fun H => ⟨a, vs, rfl, .inr ⟨o, its, n, l, c, e, z, h1⟩, h2 H⟩⟩
structure Cst (K : PySem.W.Frag) (mg : Str → Option Value) (x : Str) (d : D) : Prop where
  ex : ∃ u, mg x = some u ∧ KD K d u
theorem ed_const {x : Str} {d : D} {pos : Pos} (h : Cst X.K X.mg x d) (hg : Gl X x) (hd : (x == ("__debug__" : Str)) = false := by decide) : ED X ρ (.Name x pos) d := fun B0 B σ H0 H Q j k => by
  obtain ⟨u, h1, v, h2, h3⟩ := h.ex
  exact RE.of (pe_glob hg h1 h2 hd) (k v H0 H (JH.refl j.same) (h3 H0))
inductive KWs (X : Cx) (ρ : En) : List Keyword → List D → Prop where
  | nil : KWs X ρ [] []
  | cons {nm e p kws d ds} (h : ED X ρ e d) (r : KWs X ρ kws ds) : KWs X ρ (⟨nm, e, p⟩ :: kws) (d :: ds)
def RK (X : Cx) (kws : List Keyword) : TA := fun σ H Q => ∃ t, PK X kws t ∧ t σ H Q
theorem pk_star {kws} : PK X kws (RK X kws) := ⟨fun pos pins s σ H Q I ⟨_, h, q⟩ => h.run pos pins s σ H Q I q⟩
theorem KWs.run {kws : List Keyword} {ds : List D} (h : KWs X ρ kws ds) : ∀ {B0 B : Hp} {σ : L2.St} {H0 H : Hp} {Q : List V → Hp → Prop}, J X.K B0 B σ H0 H ρ → (∀ vs H0' H', JH H0 H H0' H' → DRs X.K H0' ds vs → Q vs H') → RK X kws σ H Q := by
  induction h with
  | nil => exact fun j k => ⟨_, pk_nil, k [] _ _ (JH.refl j.same) rfl⟩
  | cons h r ih =>
    intro B0 B σ H0 H Q j k
    exact ⟨_, pk_cons pe_star pk_star, h B0 B σ H0 H _ j fun v G0 G g1 r1 => ih (j.grow g1) fun vs L0 L g2 r2 => k (v :: vs) L0 L (g1.trans g2) ⟨v, vs, rfl, DR.mono g2.s0 _ _ r1, r2⟩⟩
end
section
variable {X : Cx} {ρ : En}
theorem ed_ifv {c a b : Expr} {k : Bool} {d e : D} {pos : Pos} (h : TD X ρ c k) (h1 : k = true → ED X ρ a d) (h2 : k = false → ED X ρ b e) : ED X ρ (.IfExp c a b pos) (if k = true then d else e) :=
  ed_if h (fun q => by subst q; exact h1 rfl) (fun q => by subst q; exact h2 rfl)
end
section
variable {X : Cx}
theorem map_int_inj {ns ms : List Int} : ns.map D.int = ms.map D.int ↔ ns = ms := by
  constructor
  · intro h
    exact List.map_inj_right (f := D.int) (fun a b e => by cases e; rfl) |>.mp h
  · rintro rfl; rfl
theorem c2_eqInts {ns ms : List Int} (hu : X.A.units + 64 < cLine) : C2 X .Eq (.tup (ns.map .int)) (.tup (ms.map .int)) (.bl (decide (ns = ms))) :=
  c2_eqC (n := 1) (m := 1) hu (.tup Cm.ints) (.tup Cm.ints) (by simp [map_int_inj])
theorem c2_neInts {ns ms : List Int} (hu : X.A.units + 64 < cLine) : C2 X .NotEq (.tup (ns.map .int)) (.tup (ms.map .int)) (.bl (!decide (ns = ms))) :=
  c2_neC (n := 1) (m := 1) hu (.tup Cm.ints) (.tup Cm.ints) (by simp [map_int_inj])
theorem c2_eqIntsL {ns ms : List Int} (hu : X.A.units + 64 < cLine) : C2 X .Eq (.lst (ns.map .int)) (.lst (ms.map .int)) (.bl (decide (ns = ms))) :=
  c2_eqC (n := 1) (m := 1) hu (.lst Cm.ints) (.lst Cm.ints) (by simp [map_int_inj])
theorem c2_eq2 {a b c d : Int} (hu : X.A.units + 64 < cLine) : C2 X .Eq (.tup [.int a, .int b]) (.tup [.int c, .int d]) (.bl (decide ([a, b] = [c, d]))) := c2_eqInts (ns := [a, b]) (ms := [c, d]) hu
theorem c2_ne2 {a b c d : Int} (hu : X.A.units + 64 < cLine) : C2 X .NotEq (.tup [.int a, .int b]) (.tup [.int c, .int d]) (.bl (!decide ([a, b] = [c, d]))) := c2_neInts (ns := [a, b]) (ms := [c, d]) hu
theorem c2_eq4 {a b c d e f g h : Int} (hu : X.A.units + 64 < cLine) : C2 X .Eq (.tup [.int a, .int b, .int c, .int d]) (.tup [.int e, .int f, .int g, .int h]) (.bl (decide ([a, b, c, d] = [e, f, g, h]))) := c2_eqInts (ns := [a, b, c, d]) (ms := [e, f, g, h]) hu
theorem c2_ne4 {a b c d e f g h : Int} (hu : X.A.units + 64 < cLine) : C2 X .NotEq (.tup [.int a, .int b, .int c, .int d]) (.tup [.int e, .int f, .int g, .int h]) (.bl (!decide ([a, b, c, d] = [e, f, g, h]))) := c2_neInts (ns := [a, b, c, d]) (ms := [e, f, g, h]) hu
end
theorem isNon_if {c : D} (k : Bool) (h : isNon c = false) : isNon (if k = true then c else .non) = !k := by
  cases k with
  | true => simpa using h
  | false => rfl
theorem notNon_if {c : D} (k : Bool) (h : isNon c = false) : (!isNon (if k = true then c else .non)) = k := by
  rw [isNon_if k h, Bool.not_not]
section
variable {X : Cx} {ρ ρ' : En}
section
variable {elt tg iter : Expr} {ifs : List Expr} {scope : Scope} {ds : List D} {cpos pos : Pos} {α β : Type} {Φ : Out → Prop}
/-- [f x for x in xs], the items of a kind -/
theorem eo_map2 (own : List (Str × Nat)) (xs : List α) (enc : α → D) (g : α → β) (enc2 : β → D) (hc : X.calm = true) (hN : X.N.Nodup) (ok : BlkOk X.N X.env.scope scope own) (hi : ID X ρ tg iter ds) (he : ds = xs.map enc) (turn : ∀ x ∈ xs, Turn1 X ρ scope (own.map (·.2)) tg elt ifs (enc x) (some (enc2 (g x)))) (hl : xs.length ≤ sizeLine)
    (hs : ∀ x, foldedSetIterable iter X.env x = pure x := by intro _; rfl) : EO X ρ (.ListComp elt [⟨tg, iter, ifs, 0⟩] scope cpos) (.lst ((xs.map g).map enc2)) := by
  have h := eo_map (cpos := cpos) own xs enc (fun x => enc2 (g x)) hc hN ok hi he turn hl hs
  rw [List.map_map]; exact h
end
end
end DL
namespace DL
open PySem
/-- the k-th number of a script, 0 behind its end -/
def cellAt (ns : List Int) (k : Int) : Int := ns.getD k.toNat 0
def mix1 (c k : Int) : Int := (c * 48271 + (k + 1) * 69621) % 2147483647
def mix2 (c k : Int) : Int := (mix1 c k * mix1 c k + mix1 c k * 16807 + k * 7919) % 2147483629
def mix3 (c k : Int) : Int := (mix2 c k * mix2 c k + c + 13 * k) % 2147483587
def drawStep (c : Int) (a : List Int × Int) (k : Nat) : List Int × Int :=
  if 1000000000000000000 ≤ c ∧ 0 < a.2 then (a.1 ++ [a.2 % 4096], a.2 / 4096) else (a.1 ++ [mix3 c k / 7 % 4096], a.2)
def drawn (c : Int) (n : Nat) : List Int × Int := (List.range n).foldl (drawStep c) ([], c)
def draws (c n : Int) : List Int := (drawn c n.toNat).1
theorem drawn_succ (c : Int) (n : Nat) : drawn c (n + 1) = drawStep c (drawn c n) n := by
  unfold drawn; rw [List.range_succ, List.foldl_append]; rfl
theorem draws_spec (c : Int) : ∀ n, (drawn c n).1.length = n ∧ ∀ x ∈ (drawn c n).1, 0 ≤ x ∧ x < 4096
  | 0 => by simp [drawn]
  | n + 1 => by
    obtain ⟨h1, h2⟩ := draws_spec c n
    rw [drawn_succ]
    unfold drawStep
    split
    · refine ⟨by simp [h1], fun x hx => ?_⟩
      simp only [List.mem_append, List.mem_singleton] at hx
      rcases hx with hx | rfl
      · exact h2 x hx
      · omega
    · refine ⟨by simp [h1], fun x hx => ?_⟩
      simp only [List.mem_append, List.mem_singleton] at hx
      rcases hx with hx | rfl
      · exact h2 x hx
      · omega
theorem draws_len (c n : Int) : (draws c n).length = n.toNat := (draws_spec c _).1
/-- the k-th draw -/
def dr (c n k : Int) : Int := (draws c n).getD k.toNat 0
theorem dr_get {c n k : Int} (h0 : 0 ≤ k) (h : k < n) : (draws c n)[k.toNat]? = some (dr c n k) := by
  unfold dr
  have : k.toNat < (draws c n).length := by rw [draws_len]; omega
  simp [this]
/-- an item of a list of numbers -/
theorem at_ints {ns : List Int} {i : Int} {k : Nat} {x : Int} (e : i = k) (h : ns[k]? = some x) : L2.atI (ns.map D.int) i = some (.int x) := by
  subst e
  exact L2.atI_nat (by rw [List.getElem?_map, h]; rfl)
theorem at_draws {c n i : Int} (h0 : 0 ≤ i) (h : i < n) : L2.atI ((draws c n).map D.int) i = some (.int (dr c n i)) :=
  at_ints (k := i.toNat) (by omega) (dr_get h0 h)
def bx0 (a : Int) : Int := a % 11 - 2
def by0 (a : Int) : Int := a / 11 % 11 - 2
def bx1 (a : Int) : Int := a % 11 - 2 + 1 + a / 121 % 6
def by1 (a b : Int) : Int := a / 11 % 11 - 2 + 1 + b % 6
def boxD (x0 y0 x1 y1 : Int) : D := .tup [.int x0, .int y0, .int x1, .int y1]
def tC (t : Int) : Int := if t = 1 then 1 else if t = 3 then -1 else if t = 5 then -1 else if t = 7 then 1 else 0
def tD (t : Int) : Int := if t = 0 then 1 else if t = 2 then -1 else if t = 4 then 1 else if t = 6 then -1 else 0
def ty (t x y : Int) : Int := tC t * x + tD t * y
def ct (f s : Int) : Int := (if 4 ≤ s then s - f else s + f) % 4 + (if ((4 ≤ f) ↔ (4 ≤ s)) then 0 else 4)
def inv (t : Int) : Int := if 4 ≤ t then t else (4 - t) % 4
structure Bx where
  a : Int
  b : Int
  c : Int
  d : Int
  deriving DecidableEq
def Bx.e (x : Bx) : D := .tup [.int x.a, .int x.b, .int x.c, .int x.d]
theorem Bx.inj {x y : Bx} (h : x.e = y.e) : x = y := by
  cases x; cases y
  simp only [Bx.e, D.tup.injEq, List.cons.injEq, D.int.injEq] at h
  simp [h.1, h.2.1, h.2.2.1, h.2.2.2.1]
theorem Bx.cm (x : Bx) : Cm 1 x.e := .tup (Cm.ints (ns := [x.a, x.b, x.c, x.d]))
theorem Bx.cms {bs : List Bx} : ∀ d ∈ bs.map Bx.e, Cm 1 d := fun d hd => by
  obtain ⟨x, _, rfl⟩ := List.mem_map.mp hd
  exact x.cm
structure IsHull (bs : List Bx) (x0 y0 x1 y1 : Int) : Prop where
  m0 : x0 ∈ bs.map Bx.a
  l0 : ∀ y ∈ bs.map Bx.a, x0 ≤ y
  m1 : y0 ∈ bs.map Bx.b
  l1 : ∀ y ∈ bs.map Bx.b, y0 ≤ y
  m2 : x1 ∈ bs.map Bx.c
  l2 : ∀ y ∈ bs.map Bx.c, y ≤ x1
  m3 : y1 ∈ bs.map Bx.d
  l3 : ∀ y ∈ bs.map Bx.d, y ≤ y1
theorem min_ex : ∀ (ns : List Int), ns ≠ [] → ∃ m ∈ ns, ∀ y ∈ ns, m ≤ y
  | [n], _ => ⟨n, by simp, by simp⟩
  | n :: k :: ns, _ => by
    obtain ⟨m, h1, h2⟩ := min_ex (k :: ns) (by simp)
    by_cases q : n ≤ m
    · exact ⟨n, by simp, fun y hy => by
        rcases List.mem_cons.mp hy with rfl | hy
        · omega
        · have := h2 y hy; omega⟩
    · exact ⟨m, by simp only [List.mem_cons] at h1 ⊢; exact .inr h1, fun y hy => by
        rcases List.mem_cons.mp hy with rfl | hy
        · omega
        · exact h2 y hy⟩
theorem max_ex : ∀ (ns : List Int), ns ≠ [] → ∃ m ∈ ns, ∀ y ∈ ns, y ≤ m
  | [n], _ => ⟨n, by simp, by simp⟩
  | n :: k :: ns, _ => by
    obtain ⟨m, h1, h2⟩ := max_ex (k :: ns) (by simp)
    by_cases q : m ≤ n
    · exact ⟨n, by simp, fun y hy => by
        rcases List.mem_cons.mp hy with rfl | hy
        · omega
        · have := h2 y hy; omega⟩
    · exact ⟨m, by simp only [List.mem_cons] at h1 ⊢; exact .inr h1, fun y hy => by
        rcases List.mem_cons.mp hy with rfl | hy
        · omega
        · exact h2 y hy⟩
theorem hull_ex {bs : List Bx} (h : bs ≠ []) : ∃ x0 y0 x1 y1, IsHull bs x0 y0 x1 y1 := by
  obtain ⟨x0, h1, h2⟩ := min_ex (bs.map Bx.a) (by simpa using h)
  obtain ⟨y0, h3, h4⟩ := min_ex (bs.map Bx.b) (by simpa using h)
  obtain ⟨x1, h5, h6⟩ := max_ex (bs.map Bx.c) (by simpa using h)
  obtain ⟨y1, h7, h8⟩ := max_ex (bs.map Bx.d) (by simpa using h)
  exact ⟨x0, y0, x1, y1, h1, h2, h3, h4, h5, h6, h7, h8⟩
end DL
namespace DL
open PySem PySem.Spec PyProof.Rows L2
abbrev Sq := Int × Int
def kq (p : Sq) : List Key := [.inl p.1, .inl p.2]
def dicD (ks : List Sq) : OC := .dt (ks.map kq) ((ks.map fun _ => true).map D.bl)
theorem kq_inj {p q : Sq} : kq p = kq q ↔ p = q := by
  constructor
  · intro h
    simp only [kq, List.cons.injEq, Sum.inl.injEq, and_true] at h
    exact Prod.ext h.1 h.2
  · rintro rfl; rfl
def tT (ks : List Sq) : List (List Key × V) := ks.map fun q => (kq q, V.bl true)
theorem zipT (ks : List Sq) : (ks.map kq).zip ((ks.map fun _ => true).map V.bl) = tT ks := by
  induction ks with
  | nil => rfl
  | cons k ks ih => simp only [List.map_cons, List.zip_cons_cons, ih]; rfl
theorem tT_any (ks : List Sq) (p : Sq) : ((tT ks).any fun kv => decide (kv.1 = kq p)) = decide (p ∈ ks) := by
  induction ks with
  | nil => rfl
  | cons k ks ih =>
    have e : tT (k :: ks) = (kq k, V.bl true) :: tT ks := rfl
    rw [e, List.any_cons, ih, Bool.eq_iff_iff]
    simp only [Bool.or_eq_true, decide_eq_true_eq, List.mem_cons, kq_inj]
    exact or_congr ⟨Eq.symm, Eq.symm⟩ Iff.rfl
theorem tT_val (ks : List Sq) (p : Sq) : (valV (tT ks) (kq p)).isSome = decide (p ∈ ks) := by
  rw [← valV_any, tT_any]
theorem dr_dic {K : PySem.W.Frag} {H0 : Hp} {ks : List Sq} {v : V} (h : DR K H0 (dicD ks).d v) : ∃ a, v = .ref a ∧ Rd H0 a (.dT (tT ks)) := by
  obtain ⟨a, vs, rfl, h1, hl, r⟩ := h
  rw [DRs.bls r, zipT] at h1
  exact ⟨a, rfl, h1⟩
section
variable {X : Cx} {ρ : En} {Φ : Out → Prop} {pos : Pos}
/-- square in d -/
theorem op_inSq (hu : X.A.units + 1 < cLine) : OpR X (compareOp .In) (fun x y H Q => ∃ (a b : Addr) (kvs : List (List Key × V)) (k : List Key), x = .ref b ∧ y = .ref a ∧ Rd H a (.dT kvs) ∧ SqT X.K H b (k.map kV) ∧ Q (.bl (valV kvs k).isSome) H) := by
  rintro pins s σ H x y v u Q I rx ry ⟨a, b, kvs, k, rfl, rfl, h1, h2, q⟩
  cases (show v = Value.ref b from rx); cases (show u = Value.ref a from ry)
  obtain ⟨z, hd, xs, rel, dd⟩ := dt_rd I.hok h1
  obtain ⟨its, r, ⟨o, e, c, n, dat⟩, _⟩ := I.tuple h2
  refine wpAny_in_heap (tupleKind_room_in1 hu) (k := k) ⟨o, its.toArray, n, e, c, dat, by simpa using items_are r⟩ hd dd ?_
  have qq := (rel.val k).isSome_eq
  rw [Option.isSome_map] at qq
  rw [← qq]
  exact ⟨.bl (valV kvs k).isSome, H, I.tok _, rfl, q⟩
theorem c2_inSq {p1 p2 : Int} {ks : List Sq} (hu : X.A.units + 64 < cLine) : C2 X .In (.tup [.int p1, .int p2]) (dicD ks).d (.bl (decide ((p1, p2) ∈ ks))) := ⟨_, op_inSq (by omega), fun H0 H x y Q s r1 r2 kk => by
  obtain ⟨b, vs, rfl, h1, r⟩ := r1
  obtain ⟨v, w, rfl, e1, e2⟩ := r.two
  cases (show v = .int p1 from e1); cases (show w = .int p2 from e2)
  obtain ⟨a, rfl, h2⟩ := dr_dic r2
  exact ⟨a, b, _, kq (p1, p2), rfl, rfl, Same.rd s h2, Same.seqT s h1, kk _ H0 H (JH.refl s) (by rw [tT_val]; rfl)⟩⟩
end
def DWalkJ (K : PySem.W.Frag) (Jt : It) (H0 H : Hp) (ds : List D) : Prop := ∃ G Y, Walk Jt ds.length G Y ∧ (∀ L0 L, JH H0 H L0 L → G L) ∧
  ∀ i L0 L x L' d, ds[i]? = some d → JH H0 H L0 L → Y i L x L' → ∃ L0', JH L0 L L0' L' ∧ DR K L0' d x
section
variable {X : Cx} {ρ ρ' : En} {Φ : Out → Prop} {pos : Pos}
variable {elt tg iter : Expr} {ifs : List Expr} {scope : Scope} {own : List (Str × Nat)} {ds : List D}
theorem lc_readJ {B0 B : Hp} {σ : L2.St} {H0 H : Hp} {Q : VK} (hi : ∀ R, (∀ Jt H0' H', JH H0 H H0' H' → DWalkJ X.K Jt H0' H' ds → R Jt H') → RI X tg iter σ H R) (ys : List (Option D)) (hlen : ys.length = ds.length) (turn : ∀ (i : Nat) d y, ds[i]? = some d → ys[i]? = some y → Turn1 X ρ scope (own.map (·.2)) tg elt ifs d y) (hl : ds.length ≤ sizeLine) (j : J X.K B0 B σ H0 H ρ)
    (k : ∀ a o H0' H', JH H0 H H0' H' → H' a = some o → H0' a = none → H a = none → OCR X.K H0' (.lst (ys.filterMap id)) o → Q (.ref a) H') : TLc X scope own tg elt iter ifs σ H Q := by
  refine hi _ fun Jt G0 G g0 ⟨GG, Y, w, hG, hY⟩ => fun Dn hD => ?_
  have j0 := j.grow g0
  refine lc_it (g := GB X scope tg) (tt := TB X scope ifs) (te := EB X scope elt) (vs := own.map (·.2)) (Qd := fun H => Q (.ref Dn) H) w (fun i H1 => ∃ L0 acc, JH G0 G L0 H1 ∧ H1 Dn = some (.lst acc) ∧ L0 Dn = none ∧ DRs X.K L0 ((ys.take i).filterMap id) acc) ⟨G0, [], JH.own g0.sh hD, upd_same, g0.sh.free hD, rfl⟩ (fun i H1 _ ⟨L0, acc, g1, _⟩ => hG L0 H1 g1) ?_ ?_
  · rintro i x H1 H1' hi ⟨L0, acc, g1, hDn, hD0, racc⟩ hy
    obtain ⟨d, hd⟩ : ∃ d, ds[i]? = some d := ⟨ds[i], by simp [hi]⟩
    obtain ⟨L1, g2, rx⟩ := hY i L0 H1 x H1' d hd g1 hy
    obtain ⟨yo, hyo⟩ : ∃ y, ys[i]? = some y := ⟨ys[i]'(by omega), by simp [show i < ys.length by omega]⟩
    obtain ⟨ρ', hlen', turn⟩ := turn i d yo hd hyo
    have j1 := ((j0.grow g1).grow g2).wipe (own.map (·.2))
    have hacc : acc.length < sizeLine := by
      have h1 := DRs.length racc
      have h2 := filterMap_len id ys i
      omega
    intro s Hs C cl fp
    refine (turn s Hs C cl fp).1 B0 B _ L1 H1' x _ j1 rx fun σ2 j2 off => ⟨wipe_back (by rw [j2.len, hlen', ← wipeE_length ρ (own.map (·.2)), ← j1.len, wipe_length]) off, ?_⟩
    have gg := g1.trans g2
    have hDn' : H1' Dn = some (.lst acc) := g2.sB _ _ hDn
    have hD0' : L1 Dn = none := g2.fr _ _ hDn trivial hD0
    have eT := filterMap_take id ys i yo hyo
    cases yo with
    | none =>
      intro s Hs C cl fp
      have t2 := (turn s Hs C cl fp).2
      refine t2 B0 B σ2 L1 H1' _ j2 fun M0 M g3 => iteF ⟨M0, acc, gg.trans g3, g3.sB _ _ hDn', g3.fr _ _ hDn' trivial hD0', ?_⟩
      rw [eT]
      simpa using DRs.mono (g2.trans g3).s0 _ _ racc
    | some z =>
      intro s Hs C cl fp
      have t2 := (turn s Hs C cl fp).2
      refine t2.1 B0 B σ2 L1 H1' _ j2 fun M0 M g3 => iteT fun s Hs C cl fp => ?_
      have t3 := (turn s Hs C cl fp).2
      refine t3.2 B0 B σ2 M0 M _ (j2.grow g3) fun y N0 N g4 ry => ?_
      have g34 := g3.trans g4
      have h4 : N Dn = some (.lst acc) := g34.sB _ _ hDn'
      have h40 : N0 Dn = none := g34.fr _ _ hDn' trivial hD0'
      have gl := gg.trans g34
      refine ⟨acc, h4, hacc, N0, acc ++ [y], ⟨gl.s0, fun b u e => upd_keep (gl.sh b u e) (ne_of_none e h40), fun b u e => upd_keep (gl.sB b u e) (ne_of_none e hD), gl.fr⟩, upd_same, h40, ?_⟩
      rw [eT]
      exact DRs.app (DRs.mono (g2.trans g34).s0 _ _ racc) (DRs.one ry)
  · rintro H1 ⟨L0, acc, g1, hDn, hD0, racc⟩
    rw [List.take_of_length_le (Nat.le_of_eq hlen)] at racc
    exact k Dn _ L0 H1 (g0.trans g1) hDn hD0 (g0.sB.free hD) ⟨acc, rfl, racc⟩
variable {cpos : Pos}
end
end DL
namespace DL
open PySem
def sel3 (p q r m : Int) : Int := if m = 0 then p else if m = 1 then q else r
theorem ix_sel3 {p q r m : Int} (h : 0 ≤ m ∧ m < 3) : IX (.lst [.int p, .int q, .int r]) (.int m) (.int (sel3 p q r m)) := by
  have : m = 0 ∨ m = 1 ∨ m = 2 := by omega
  rcases this with rfl | rfl | rfl
  · exact IX.l0
  · exact IX.l1
  · exact IX.l2
end DL
namespace DL
open PySem PySem.Spec PyProof.Rows L2
section
variable {X : Cx} {ρ ρ' : En}
theorem DG.mono {is is' : List Nat} {tg : Expr} {d : D} (h : DG X is tg d ρ ρ') (hi : ∀ k ∈ is, k ∈ is') : DG X is' tg d ρ ρ' := fun B0 B σ H0 H v Q j r k =>
  h B0 B σ H0 H v Q j r fun σ' j' off => k σ' j' fun m hm => off m fun z => hm (hi m z)
end
end DL
namespace DL
open PySem PySem.Spec PyProof.Rows L2
/-- c stands at a, and some slot owns it -/
structure Cell (ρ : En) (a : Addr) (c : OC) : Prop where
  ex : ∃ (i : Nat) (cs : List (Addr × OC)) (d : D), ρ[i]? = some (.ox cs d) ∧ (a, c) ∈ cs
theorem cell_at {ρ : En} {a : Addr} {c : OC} (i : Nat) {cs : List (Addr × OC)} {d : D} (h : ρ[i]? = some (.ox cs d)) (m : (a, c) ∈ cs) : Cell ρ a c := ⟨i, cs, d, h, m⟩
section
variable {K : PySem.W.Frag} {B0 B H0 H : Hp} {σ : L2.St} {ρ : En}
theorem J.at (j : J K B0 B σ H0 H ρ) {a : Addr} {c : OC} (h : Cell ρ a c) : ∃ o, H a = some o ∧ H0 a = none ∧ B a = none ∧ OCR K H0 c o := by
  obtain ⟨i, cs, d, h1, h2⟩ := h.ex
  exact j.cell h1 h2
end
section
variable {X : Cx} {ρ : En} {Φ : Out → Prop} {e a b : Expr} {pos : Pos} {d : D} {rest : List Stmt}
theorem ed_varX (i : Nat) {x : Str} {cs : List (Addr × OC)} (hρ : ρ[i]? = some (.ox cs d)) (hN : X.N[i]? = some x := by rfl) (hv : Vis X.env.scope x := by first | exact Or.inl rfl | exact Or.inr (Or.inl rfl) | exact Or.inr (Or.inr rfl)) (hd : (x == ("__debug__" : Str)) = false := by decide)
    (hcd : (x == ("__classdict__" : Str)) = false := by decide) : ED X ρ (.Name x pos) d := fun B0 B σ H0 H Q j k => by
  obtain ⟨ov, h1, ⟨v, rfl, h2⟩, _⟩ := j.get hρ
  exact RE.of (pe_var hN hv hd hcd) ⟨v, h1, k v H0 H (JH.refl j.same) h2⟩
/-- the items of a list that stands at a place -/
theorem ed_ixA {p : Addr} {ds : List D} {i : Int} (hc : Cell ρ p (.lst ds)) (ha : ED X ρ a (.ad p)) (hb : ED X ρ b (.int i)) (h : atI ds i = some d) (hs : PlainIx b := by exact fun _ _ => rfl) : ED X ρ (.Subscript a b pos) d := fun B0 B σ H0 H Q j kk => by
  refine RE.of (pe_ix ix_list pe_star pe_star hs) (ha B0 B σ H0 H _ j fun x G0 G g1 r1 => hb B0 B σ G0 G _ (j.grow g1) fun y L0 L g2 r2 => ?_)
  cases (show x = .ref p from r1)
  obtain ⟨o, h1, h2, h3, vs, rfl, r⟩ := ((j.grow g1).grow g2).at hc
  obtain ⟨k, e1, e2, _⟩ := atI_get h
  obtain ⟨v, h3, h4⟩ := DRs.get r e2
  have e4 : atI vs i = some v := by
    unfold atI at h ⊢
    rw [← DRs.length r]
    cases q : ixN ds.length i with
    | none => rw [q] at h; cases h
    | some m =>
      rw [q] at h
      have := (ixN_seq q).1
      rw [e1] at this
      cases this
      exact h3
  exact ⟨p, vs, i, v, rfl, r2, SqL.of h1, e4, kk v L0 L (g1.trans g2) h4⟩
/-- len of a list that stands at a place, or that a slot owns -/
theorem ed_lenA {p1 : Pos} {p : Addr} {ds : List D} (hc : Cell ρ p (.lst ds)) (hg : Gl X "len") (hm : X.mg "len" = none) (ha : ED X ρ a (.ad p)) 
    (he : starEach [a] X.env = (false, eval a X.env) :: starEach [] X.env := by rfl) (hpl : (backTo pos (starEach [] X.env)).any (·.1) = false := by rfl) : ED X ρ (.Call (.Name "len" p1) [a] [] pos) (.int ds.length) := fun B0 B σ H0 H Q j kk => by
  refine RE.of (pe_callB call_len_seq hg hm bb_len pa_star (by decide) (by decide) he hpl) (ad_cons (X := X) ha ad_nil he B0 B σ H0 H _ j fun vs G0 G g r => ?_)
  obtain ⟨x, rfl, r1⟩ := r.one'
  cases (show x = .ref p from r1)
  obtain ⟨o, h1, h2, h3, ys, rfl, r⟩ := (j.grow g).at hc
  exact ⟨p, ys, rfl, .inl (SqL.of h1), by rw [← DRs.length r]; exact kk _ G0 G g rfl⟩
theorem td_truthA {p : Addr} {ds : List D} (hc : Cell ρ p (.lst ds)) (h : ED X ρ e (.ad p)) (he : ∀ whole, isTrue e X.env whole = (do let v ← whole; standAt e.pos; holding [v] (truthy v)) := by intro _; rfl) : TD X ρ e (!ds.isEmpty) := fun B0 B σ H0 H Q j kk =>
  RT.of (pt_truth pe_star he) (h B0 B σ H0 H _ j fun v G0 G g r => by
    cases (show v = .ref p from r)
    obtain ⟨o, h1, h2, h3, vs, rfl, r⟩ := (j.grow g).at hc
    exact ⟨_, .inl ⟨vs, SqL.of h1, rfl⟩, by rw [r.emp]; exact kk _ _ g⟩)
/-- e.append(f), e a list at a place -/
theorem ws_appendA (i : Nat) {p : Addr} {cs : List (Addr × OC)} {d0 : D} {ds : List D} {p2 p3 : Pos} (hi : ρ[i]? = some (.ox cs d0)) (hm : (p, OC.lst ds) ∈ cs) (ha : ED X ρ a (.ad p)) (he : ED X ρ e d) (hl : ds.length < sizeLine) (hΦ : Φ (.nx (ρ.set i (.ox (putC cs p (.lst (ds ++ [d]))) d0))))
    (hpe : ∀ {to : TE} {ta : TA}, PE X a to → PA X [e] ta → PS X (.Expr (.Call (.Attribute a "append" p2) [e] [] p3) pos) (tDrop (tBM X.K "list" rAppend to ta))) (hs : starEach [e] X.env = (false, eval e X.env) :: starEach [] X.env := by rfl) :
    WS X (.Expr (.Call (.Attribute a "append" p2) [e] [] p3) pos) ρ Φ := fun B0 B σ H0 H Dn j k => by
  refine ⟨_, hpe pe_star pa_star, ha B0 B σ H0 H _ j fun v G0 G g r => ?_⟩
  cases (show v = .ref p from r)
  obtain ⟨o, h1, h2, h3, vs, rfl, r⟩ := (j.grow g).cell hi hm
  refine ⟨Or.inl ⟨rfl, _, Or.inl (Or.inl h1)⟩, ad_cons (X := X) he ad_nil hs B0 B σ G0 G _ (j.grow g) fun ws L0 L g2 rr => ?_⟩
  obtain ⟨y, rfl, ry⟩ := rr.one'
  have j1 := (j.grow g).grow g2
  obtain ⟨o', h1', h2', h3', vs', rfl, r'⟩ := j1.cell hi hm
  exact ⟨p, vs', y, rfl, rfl, h1', by rw [← DRs.length r']; exact hl, k _ hΦ _ L0 _ (j1.put hi hm ⟨_, rfl, DRs.app r' (DRs.one ry)⟩)⟩
end
theorem putK_zip {κ : Type} [DecidableEq κ] {ks : List κ} {vs : List V} {k : κ} {v : V} (hl : ks.length = vs.length) (h : k ∉ ks) : putK (ks.zip vs) k v = (ks ++ [k]).zip (vs ++ [v]) := by
  unfold putK
  have e : ((ks.zip vs).any fun kv => decide (kv.1 = k)) = false := by
    rw [List.any_eq_false]
    rintro ⟨k', v'⟩ hm
    have := (List.of_mem_zip hm).1
    simp only [decide_eq_true_eq]
    rintro rfl
    exact h this
  rw [e, if_neg (by simp), List.zip_append hl]; rfl
end DL
namespace DL
abbrev Seg (α : Type) := Int × Int × α
section
variable {α : Type} [DecidableEq α] {e : α}
def segVal (e : α) : List (Seg α) → Int → α
  | [], _ => e
  | s :: t, y => if s.1 ≤ y ∧ y < s.2.1 then s.2.2 else segVal e t y
/-- one behind the other, not to be made one -/
def link (s s' : Seg α) : Prop := s.2.1 ≤ s'.1 ∧ (s.2.1 = s'.1 → s.2.2 ≠ s'.2.2)
def okS (e : α) (s : Seg α) : Prop := s.1 < s.2.1 ∧ s.2.2 ≠ e
inductive Can (e : α) : List (Seg α) → Prop where
  | nil : Can e []
  | one {s} (h : okS e s) : Can e [s]
  | cons {s s' t} (h : okS e s) (hl : link s s') (ht : Can e (s' :: t)) : Can e (s :: s' :: t)
theorem Can.head {s : Seg α} {t : List (Seg α)} (h : Can e (s :: t)) : okS e s := by
  cases h with
  | one h => exact h
  | cons h _ _ => exact h
theorem Can.tail {s : Seg α} {t : List (Seg α)} (h : Can e (s :: t)) : Can e t := by
  cases h with
  | one h => exact .nil
  | cons _ _ h => exact h
theorem Can.ok {l : List (Seg α)} (h : Can e l) : ∀ p ∈ l, okS e p := by
  induction l with
  | nil => intro p hp; simp at hp
  | cons s t ih =>
    intro p hp
    rcases List.mem_cons.mp hp with rfl | hp
    · exact h.head
    · exact ih h.tail p hp
end
end DL
namespace DL
abbrev Asc (es : List Int) : Prop := es.Pairwise (· < ·)
structure EOk (es : List Int) : Prop where
  asc : Asc es
  even : es.length % 2 = 0
theorem eok_nil : EOk [] := ⟨List.Pairwise.nil, rfl⟩
end DL
namespace DL
open PySem PySem.Spec PyProof.Rows L2
theorem perm_srt_eq {α : Type} {r : α → α → Prop} (as : ∀ a b, r a b → r b a → a = b) : ∀ {l m : List α}, l.Perm m → l.Pairwise r → m.Pairwise r → l = m
  | [], m, p, _, _ => (List.Perm.eq_nil p.symm).symm
  | x :: l, [], p, _, _ => absurd p.length_eq (by simp)
  | x :: l, y :: m, p, hl, hm => by
    have e : x = y := by
      rcases List.mem_cons.mp (p.mem_iff.mp List.mem_cons_self) with e | hx
      · exact e
      · rcases List.mem_cons.mp (p.mem_iff.mpr List.mem_cons_self) with e | hy
        · exact e.symm
        · exact as _ _ ((List.pairwise_cons.mp hl).1 _ hy) ((List.pairwise_cons.mp hm).1 _ hx)
    subst e
    rw [perm_srt_eq as p.cons_inv (List.pairwise_cons.mp hl).2 (List.pairwise_cons.mp hm).2]
def srtI (ns : List Int) : List Int := ns.mergeSort (fun a b => decide (a ≤ b))
theorem srtI_perm (ns : List Int) : (srtI ns).Perm ns := List.mergeSort_perm _ _
theorem srtI_srt (ns : List Int) : (srtI ns).Pairwise (· ≤ ·) := by
  have h := List.pairwise_mergeSort (le := fun a b : Int => decide (a ≤ b)) (fun a b c h1 h2 => by simp at *; omega) (fun a b => by simp; omega) ns
  exact h.imp fun h => by simpa using h
theorem srtI_eq {ns ms : List Int} (p : ms.Perm ns) (h : ms.Pairwise (· ≤ ·)) : ms = srtI ns :=
  perm_srt_eq (fun a b h1 h2 => by omega) (p.trans (srtI_perm ns).symm) h (srtI_srt ns)
def LeQ (a b : Sq) : Prop := a.1 < b.1 ∨ (a.1 = b.1 ∧ a.2 ≤ b.2)
instance (a b : Sq) : Decidable (LeQ a b) := by unfold LeQ; infer_instance
inductive All2 {α β : Type} (r : α → β → Prop) : List α → List β → Prop where
  | nil : All2 r [] []
  | cons {a b as bs} (h : r a b) (t : All2 r as bs) : All2 r (a :: as) (b :: bs)
theorem All2.len {α β : Type} {r : α → β → Prop} {as : List α} {bs : List β} (h : All2 r as bs) : as.length = bs.length := by
  induction h with
  | nil => rfl
  | cons _ _ ih => simp [ih]
theorem All2.imp {α β : Type} {r q : α → β → Prop} {as : List α} {bs : List β} (h : All2 r as bs) (i : ∀ a b, r a b → q a b) : All2 q as bs := by
  induction h with
  | nil => exact .nil
  | cons h _ ih => exact .cons (i _ _ h) ih
theorem All2.get {α β : Type} {r : α → β → Prop} : ∀ {as : List α} {bs : List β} {j : Nat} {a : α} {b : β}, All2 r as bs → as[j]? = some a → bs[j]? = some b → r a b
  | _, _, j, _, _, .nil, h, _ => by simp at h
  | _, _, 0, _, _, .cons h t, h1, h2 => by simp at h1 h2; subst h1 h2; exact h
  | _, _, j + 1, _, _, .cons h t, h1, h2 => All2.get (j := j) t (by simpa using h1) (by simpa using h2)
section
variable {X : Cx}
theorem bo_sortedI {ns : List Int} : BO X (.builtin "sorted") [.lst (ns.map D.int)] (.lst ((srtI ns).map D.int)) := ⟨_, cr_sortedI, fun H0 H vs Q s r k => by
  obtain ⟨x, rfl, a, ys, rfl, h1, h2⟩ := r.one'
  rw [DRs.ints h2] at h1
  refine ⟨a, ns, rfl, s.seq h1, fun zs p hz1 hz2 hp => ?_⟩
  rw [srtI_eq hz1 hz2]
  exact k p _ _ _ (JH.own s hp) upd_same (s.free hp) hp ⟨_, rfl, DRs.ofInts _⟩⟩
theorem bo_sortedDI {ks : List Int} {ds : List D} (hc : X.calm = true) (hl : ks.length < 64) : BO X (.builtin "sorted") [.dk (ks.map Sum.inl) ds] (.lst ((srtI ks).map D.int)) := ⟨_, call_sortedDI hc, fun H0 H vs Q s r k => by
  obtain ⟨x, rfl, a, ys, rfl, h1, hlen, h2⟩ := r.one'
  refine ⟨a, _, ks, rfl, Same.rd s h1, by rw [List.map_fst_zip (by rw [hlen]; exact Nat.le_refl _)], hl, fun zs p hz1 hz2 hp => ?_⟩
  rw [srtI_eq hz1 hz2]
  exact k p _ _ _ (JH.own s hp) upd_same (s.free hp) hp ⟨_, rfl, DRs.ofInts _⟩⟩
end
end DL
namespace DL
abbrev Row := Seg (List Int)
structure ROk (R : List Row) : Prop where
  can : Can [] R
  ed : ∀ p ∈ R, EOk p.2.2
def rowAt (R : List Row) (y : Int) : List Int := segVal [] R y
theorem segVal_mem {α : Type} {e : α} : ∀ {l : List (Seg α)} {y : Int}, segVal e l y = e ∨ ∃ p ∈ l, p.1 ≤ y ∧ y < p.2.1 ∧ p.2.2 = segVal e l y
  | [], y => .inl rfl
  | s :: t, y => by
    unfold segVal
    by_cases h : s.1 ≤ y ∧ y < s.2.1
    · rw [if_pos h]; exact .inr ⟨s, List.mem_cons_self, h.1, h.2, rfl⟩
    · rw [if_neg h]
      rcases segVal_mem (e := e) (l := t) (y := y) with h | ⟨p, h1, h2⟩
      · exact .inl h
      · exact .inr ⟨p, List.mem_cons_of_mem _ h1, h2⟩
theorem ROk.row {R : List Row} (h : ROk R) (y : Int) : EOk (rowAt R y) := by
  rcases segVal_mem (e := ([] : List Int)) (l := R) (y := y) with e | ⟨p, h1, _, _, e⟩
  · unfold rowAt; rw [e]; exact eok_nil
  · unfold rowAt; rw [← e]; exact h.ed p h1
end DL
namespace DL
open PySem PySem.Spec PyProof.Rows L2
section
variable {X : Cx} {ρ : En} {Φ : Out → Prop} {e a b : Expr} {pos : Pos} {d : D} {rest : List Stmt}
/-- for x in xs: the slots by the turn, by something that is there (g) and by what one doesn't care for (u) -/
theorem ws_forX {α U γ : Type} {tg iter : Expr} {ds : List D} (xs : List α) (enc : α → D) {body : List Stmt} (hc : X.calm = true) (hi : ID X ρ tg iter ds) (he : ds = xs.map enc) (G : Nat → γ → U → List (Nat × Sl)) (V : En → U) (P : Nat → γ → Prop) (g0 : γ) (hρ : upds ρ (G 0 g0 (V ρ)) = ρ) (h0 : P 0 g0)
    (hs : ∀ i x g u, xs[i]? = some x → P i g → ∃ is ρ'', DG X is tg (enc x) (upds ρ (G i g u)) ρ'' ∧ WSs X body ρ'' (fun o => match o with | .nx r => ∃ g', upds ρ (G (i + 1) g' (V r)) = r ∧ P (i + 1) g' | .ct r => ∃ g', upds ρ (G (i + 1) g' (V r)) = r ∧ P (i + 1) g' | .bk r => Φ (.nx r) | .rt v => Φ (.rt v) | .ro c => Φ (.ro c) | .rc v cs => Φ (.rc v cs)))
    (hd : ∀ g u, P xs.length g → Φ (.nx (upds ρ (G xs.length g u))))
    (hp : PassesOwn (model X.prog X.w) X.A X.env X.xe := by exact PassesOwn.never) (hf : ∀ x, foldedSetIterable iter X.env x = pure x := by intro _; rfl) : WS X (.For tg iter body [] pos) ρ Φ := by
  refine ws_forT xs enc hc hi he (fun i r => ∃ g, (∃ u, upds ρ (G i g u) = r) ∧ P i g) ⟨g0, ⟨V ρ, hρ⟩, h0⟩ (fun i x r hx hI => ?_) (fun r hI => ?_) hp hf
  · obtain ⟨g, ⟨u, rfl⟩, p⟩ := hI
    obtain ⟨is, r2, h1, h2⟩ := hs i x g u hx p
    refine ⟨is, r2, h1, ws_mono h2 fun o ho => ?_⟩
    cases o with
    | nx r => obtain ⟨g', e1, e2⟩ := ho; exact ⟨g', ⟨_, e1⟩, e2⟩
    | ct r => obtain ⟨g', e1, e2⟩ := ho; exact ⟨g', ⟨_, e1⟩, e2⟩
    | bk r => exact ho
    | rt v => exact ho
    | ro c => exact ho
    | rc v cs => exact ho
  · obtain ⟨g, ⟨u, rfl⟩, p⟩ := hI
    exact hd g u p
end
end DL
namespace DL
open PySem PySem.Spec PyProof.Rows L2
open PySem.W (EachIs AllAlike Sortable KeepsBut SortsAt KeyedOut dataLe dataKind alike)
theorem each_all2 {α β : Type} {R : α → β → Prop} : ∀ {as : List α} {bs : List β}, All2 R as bs → EachIs R as bs
  | _, _, .nil => .nil
  | _, _, .cons h t => .cons h (each_all2 t)
/-- a value that stands for data -/
def VD (K : PySem.W.Frag) (H : Hp) (u : Value) (d : D) : Prop := ∃ v, RelV v u ∧ DR K H d v
theorem vd_of {K : PySem.W.Frag} {H : Hp} : ∀ {ds : List D} {vs : List V} {us : List Value}, DRs K H ds vs → Vals vs us → All2 (VD K H) us ds
  | [], vs, us, h, r => by cases (show vs = [] from h); cases r; exact .nil
  | d :: ds, vs, us, h, r => by
    obtain ⟨v, w, rfl, h1, h2⟩ := h
    cases r with
    | cons r1 r2 => exact .cons ⟨v, r1, h1⟩ (vd_of h2 r2)
theorem vd_to {K : PySem.W.Frag} {H : Hp} : ∀ {ds : List D} {us : List Value}, All2 (VD K H) us ds → ∃ vs, Vals vs us ∧ DRs K H ds vs
  | _, _, .nil => ⟨[], .nil, rfl⟩
  | _, _, .cons ⟨v, r1, h1⟩ t => by
    obtain ⟨vs, r2, h2⟩ := vd_to t
    exact ⟨v :: vs, .cons r1 r2, v, vs, rfl, h1, h2⟩
section
variable {X : Cx} {pins : List (Addr × Obj)} {σ : L2.St} {H : Hp} {s : Shared} {β : Type} {bs : List β} {enc kd : β → D} {R : List D → D → Prop} {k : Nat} {f : Addr}
/-- one key -/
theorem key_run {x : Str} (G : Fn X.prog X.w X.K X.mg X.base x k R) (hf : X.mg x = some (.ref f)) {A : Around} (hA : ∀ (s : Shared) (H : Hp), Env0 X.prog X.w X.K X.mg X.base X.A X.stack s H → Env0 X.prog X.w X.K X.mg X.base A X.stack s H) (hr : Room k A) {H0 : Hp} {d e : D} {u : Value} (I : Inv X pins σ H s) (s0 : Same H0 H) (hu : VD X.K H0 u d) (hR : R [d] e) (E : Value → Shared → Prop) {a b : Addr}
    (fa : FpOk X pins H a) (fb : FpOk X pins H b) {oa ob : Obj} (ea : s.heap.get? a = some oa) (eb : s.heap.get? b = some ob) :
    wpAny (model X.prog X.w) A (call (.ref f) [u]) (fun r s' => ∃ H0' H', Inv X pins σ H' s' ∧ JH H0 H H0' H' ∧ VD X.K H0' r e ∧ s'.heap.get? a = some oa ∧ s'.heap.get? b = some ob ∧ FpOk X pins H' a ∧ FpOk X pins H' b) E s := by
  obtain ⟨f', fd, ps, F, hm, hk, hb⟩ := G.ex
  rw [hf] at hm; cases hm
  obtain ⟨v, r1, h1⟩ := hu
  have sp : spR X.K R [v] H (fun r H' => ∃ H0', JH H0 H H0' H' ∧ DR X.K H0' e r) E0 := ⟨H0, [d], e, s0, ⟨v, [], rfl, h1, rfl⟩, hR, fun r H0' H' g q => ⟨H0', g, q⟩⟩
  have hl : ([u] ++ ([] : List Value)).length = ps.length := by
    have := F.len _ _ _ _ sp
    simpa using this
  have nst : ∀ {z : Addr}, FpOk X pins H z → z ∉ frs X.stack := fun {z} fz hz => by
    rcases List.mem_cons.mp (I.stkSub _ hz) with q | q
    · exact fz.2.1 q
    · exact fz.2.2.1 q
  refine wpAny_call (codeAny_mono (F.run A X.stack s H ⟨[u], []⟩ ([u] ++ []) [v] _ E0 hr (hA s H I.env0) (hb s [u] I.kIn hl) (.cons r1 .nil) sp) fun r s' hq => ?_)
  cases r with
  | error e => exact hq.elim
  | ok fl =>
    cases fl with
    | ret w =>
      obtain ⟨v', H', os, bare, un, hok, rv, H0', g, q⟩ := hq
      have I' : Inv X pins σ H' s' := I.call' (ch := []) os un hok bare (fun b z => absurd z (by simp))
      refine ⟨H0', H', I', g, ⟨v', rv, q⟩, un.keep _ _ ea fa.1 (nst fa) (by simp), un.keep _ _ eb fb.1 (nst fb) (by simp), ⟨un.free _ _ ea fa.1 (by simp), fa.2⟩, ⟨un.free _ _ eb fb.1 (by simp), fb.2⟩⟩
    | next => exact False.elim hq
    | brk => exact False.elim hq
    | cont => exact False.elim hq
noncomputable def srtK (kd : β → D) (bs : List β) : List β := bs.mergeSort (dataLe false fun b => (kd b).py)
theorem srtK_perm (kd : β → D) (bs : List β) : (srtK kd bs).Perm bs := List.mergeSort_perm _ _
/-- keys that can be compared -/
structure KeyOk (A : Around) (kd : β → D) (bs : List β) : Prop where
  plain : ∀ b ∈ bs, (kd b).plain = true
  alike : AllAlike (bs.map fun b => (kd b).py)
  sort : Sortable (bs.map fun b => (kd b).py)
  deep : ∀ b ∈ bs, A.units + 1 + 1 + (kd b).py.depth < cLine
theorem reads_vd (I : Inv X pins σ H s) {H0 : Hp} (s0 : Same H0 H) {u : Value} {d : D} (p : d.plain = true) (h : VD X.K H0 u d) : ∃ as, Reads s.heap u d.py as := by
  obtain ⟨v, r, h⟩ := h
  exact Dp.reads I d.py v u (DR.dp _ _ p (DR.mono s0 _ _ h)) r
theorem all2_snoc {α β : Type} {r : α → β → Prop} : ∀ {as : List α} {bs : List β} {a : α} {b : β}, All2 r as bs → r a b → All2 r (as ++ [a]) (bs ++ [b])
  | _, _, _, _, .nil, h => .cons h .nil
  | _, _, _, _, .cons h t, g => .cons h (all2_snoc t g)
theorem vd_mono {K : PySem.W.Frag} {H0 H1 : Hp} (e : Same H0 H1) {u : Value} {d : D} (h : VD K H0 u d) : VD K H1 u d := by
  obtain ⟨v, r, h⟩ := h
  exact ⟨v, r, DR.mono e _ _ h⟩
/-- the keys are made, then all is sorted by them -/
theorem sort_rest {x : Str} (G : Fn X.prog X.w X.K X.mg X.base x k R) (hf : X.mg x = some (.ref f)) (hr : Room (k + 2) X.A) (hR : ∀ b ∈ bs, R [enc b] (kd b)) (ok : KeyOk X.A kd bs) {H0 : Hp} {its : List Value} (hv : All2 (fun u b => VD X.K H0 u (enc b)) its bs) {a kS : Addr} {e1 : Nat} (hz : its.length ≤ sizeLine)
    {P : PySem.Fin → Shared → Prop} {E : Value → Shared → Prop} (I : Inv X pins σ H s) (s0 : Same H0 H) (fa : FpOk X pins H a) (fk : FpOk X pins H kS) (hka : kS ≠ a) (ea : s.heap.get? a = some (seqObj "list" #[] e1)) (ek : s.heap.get? kS = some (seqObj "list" #[] 0))
    (fin : ∀ (s' : Shared) H0' H' ys, JH H0 H H0' H' → H' a = none → Inv X pins σ (upd H' a (.lst ys)) s' → DRs X.K H0' ((srtK kd bs).map enc) ys → P (.done (.ret .none)) s') :
    wpAny (model X.prog X.w) X.A.in1.in1 (ksk_rest a (.ref f) false its.toArray e1 (.ref kS)) P E s := by
  have hlen : its.length = bs.length := hv.len
  unfold ksk_rest
  refine wpAny_bind (wpAny_rule ?_)
  rw [List.forIn_toArray]
  refine wpAny_bind (ksk_fold (fun i s' => ∃ H0' H' kA e, Inv X pins σ H' s' ∧ JH H0 H H0' H' ∧ FpOk X pins H' a ∧ FpOk X pins H' kS ∧ s'.heap.get? kS = some (seqObj "list" kA e) ∧ s'.heap.get? a = some (seqObj "list" #[] e1) ∧ All2 (fun u b => VD X.K H0' u (kd b)) kA.toList (bs.take i)) its 0 s
    ⟨H0, H, #[], 0, I, JH.refl s0, fa, fk, ek, ea, by rw [List.take_zero]; exact .nil⟩ ?step ?done)
  case step =>
    rintro j u s1 hu ⟨H1, H2, kA, e, I1, g1, fa1, fk1, ek1, ea1, hk1⟩
    simp only [Nat.zero_add] at hk1 ⊢
    have hj : j < its.length := (List.getElem?_eq_some_iff.mp hu).1
    obtain ⟨b, hb⟩ : ∃ b, bs[j]? = some b := ⟨bs[j]'(by omega), by simp [show j < bs.length by omega]⟩
    have hkl := hk1.len
    rw [Array.length_toList, List.length_take] at hkl
    refine wpAny_bind (wpAny_attempt (wpAny_mono (key_run G hf (A := X.A.in1.in1) (fun _ _ h => h.in1.in1) hr.in1.in1 I1 g1.sh (vd_mono g1.s0 (hv.get hu hb)) (hR b (List.mem_of_getElem? hb)) (fun _ _ => False) fa1 fk1 ea1 ek1) (fun r s2 h2 => ?_) fun _ _ z => z.elim))
    obtain ⟨H3, H4, I2, g2, hr2, ea2, ek2, fa2, fk2⟩ := h2
    refine wpAny_bind (listUpdate_at ek2 rfl ?_ (by omega) (by rw [Array.size_push]; omega))
    obtain ⟨c2, hc2⟩ : ∃ c, (s2.heap.update kS (Obj.mapSeq (·.push r))).get? kS = some (seqObj "list" (kA.push r) c) := ⟨_, get?_update_seq ek2 (·.push r)⟩
    have ne : ∀ c o, c ≠ kS → s2.heap.get? c = some o → (s2.heap.update kS (Obj.mapSeq (·.push r))).get? c = some o := fun c o hc e => by
      rw [Heap.get?_update_ne _ _ _ _ hc]; exact e
    have I3 := I2.turned (t' := s2.toks) (it := kS) ne fk2.1 fk2.2.1 fk2.2.2.2.1 fk2.2.2.2.2.1 fk2.2.2.2.2.2
    refine wpAny_pure ⟨rfl, H3, H4, kA.push r, c2, I3, g1.trans g2, fa2, fk2, hc2, ne _ _ (Ne.symm hka) ea2, ?_⟩
    rw [Array.toList_push, List.take_add_one, hb]
    exact all2_snoc (hk1.imp fun _ _ q => vd_mono g2.s0 q) hr2
  case done =>
    rintro s1 ⟨H1, H2, kA, e, I1, g1, fa1, fk1, ek1, ea1, hk1⟩
    rw [List.take_of_length_le (by omega)] at hk1
    have hsz : kA.size = its.length := by rw [← Array.length_toList, hk1.len, hlen]
    refine wpAny_bind (listItems_at ek1 rfl ?_)
    obtain ⟨G1, r1, r2⟩ := restrict s1.heap fun c => decide (c ≠ kS)
    have gk : ∀ c o, c ≠ kS → s1.heap.get? c = some o → G1.get? c = some o := fun c o hc e => by rw [r1 c (decide_eq_true hc)]; exact e
    have gn : G1.get? kS = none := r2 kS (decide_eq_false fun z => z rfl)
    have gb : ∀ c o, G1.get? c = some o → s1.heap.get? c = some o := fun c o e => by
      by_cases hc : c = kS
      · rw [hc, gn] at e; cases e
      · rw [← r1 c (decide_eq_true hc)]; exact e
    have hreads : EachIs (fun v d => ∃ as, Reads s1.heap v d as) kA.toList (bs.map fun b => (kd b).py) := by
      refine each_all2 ?_
      have : ∀ {us : List Value} {cs : List β}, All2 (fun u b => VD X.K H1 u (kd b)) us cs → (∀ b ∈ cs, b ∈ bs) → All2 (fun v d => ∃ as, Reads s1.heap v d as) us (cs.map fun b => (kd b).py) := by
        intro us cs h
        induction h with
        | nil => intro _; exact .nil
        | cons h t ih => intro m; exact .cons (reads_vd I1 g1.sh (ok.plain _ (m _ (by simp))) h) (ih fun b hb => m b (by simp [hb]))
      exact this hk1 fun b hb => hb
    refine PySem.W.keyH_end (κ := dataKind s1.heap (bs.map fun b => (kd b).py)) (h₁ := G1) (fun c o _ q => gb c o q) gn ek1 ea1 hka (SortsAt.data hreads ok.alike ok.sort fun d hd => ?_) hsz hz fun h' tk c kp ha' => ?_
    · obtain ⟨b, hb, rfl⟩ := List.mem_map.mp hd
      exact ok.deep b hb
    · have hKO : KeyedOut false (bs.map fun b => (kd b).py) its (PySem.W.sortVals (dataKind s1.heap (bs.map fun b => (kd b).py)) false kA.toList its) := ⟨s1.heap, kA.toList, ok.alike, rfl, hreads⟩
      have hout := PySem.W.keyedOut_each (fun b => (kd b).py) hKO (each_all2 hv)
      have hlo := hKO.length (by rw [List.length_map]; exact hlen.symm)
      generalize PySem.W.sortVals (dataKind s1.heap (bs.map fun b => (kd b).py)) false kA.toList its = out at ha' hout hlo
      have hmap : ∀ {us : List Value} {cs : List β}, EachIs (fun u b => VD X.K H0 u (enc b)) us cs → All2 (VD X.K H0) us (cs.map enc) := by
        intro us cs h
        induction h with
        | nil => exact .nil
        | cons h t ih => exact .cons h ih
      obtain ⟨ys, q1, q2⟩ := vd_to (hmap hout)
      obtain ⟨G2, w1, w2⟩ := restrict G1 fun c => decide (c ≠ a)
      have hn2 : G2.get? a = none := w2 a (decide_eq_false fun z => z rfl)
      have I2 := I1.turned (h' := G1) (t' := s1.toks) (it := kS) gk fk1.1 fk1.2.1 fk1.2.2.2.1 fk1.2.2.2.2.1 fk1.2.2.2.2.2
      have I3 := I2.turned (h' := G2) (t' := s1.toks) (it := a) (fun c o hc e => by rw [w1 c (decide_eq_true hc)]; exact e) fa1.1 fa1.2.1 fa1.2.2.2.1 fa1.2.2.2.2.1 fa1.2.2.2.2.2
      have I4 := I3.laidN (h' := h') (t' := tk) (a := a) (o := .lst ys) (fun c o e => by
        by_cases hc : c = a
        · subst hc; rw [hn2] at e; cases e
        · exact kp c o hc (by rw [w1 c (decide_eq_true hc)] at e; exact e)) hn2 fa1.1 (show ObjOk X.prog X.w _ _ _ (.lst ys) from ⟨by rw [q1.length, hlo]; exact hz, out, c, q1, ha'⟩)
      exact fin _ H1 H2 ys g1 fa1.1 I4 (DRs.mono g1.s0 _ _ q2)
theorem call_sortedK {x : Str} (G : Fn X.prog X.w X.K X.mg X.base x k R) (hf : X.mg x = some (.ref f)) (hr : Room (k + 2) X.A) (hR : ∀ b ∈ bs, R [enc b] (kd b)) (ok : KeyOk X.A kd bs) : CallRK X (.builtin "sorted") ["key"] (fun vs zs H Q => ∃ (l : Addr) (xs : List V) (H0 : Hp), vs = [.ref l] ∧ zs = [.ref f] ∧ (SqL X.K H l xs ∨ SqT X.K H l xs) ∧ Same H0 H ∧ DRs X.K H0 (bs.map enc) xs ∧
    ∀ H0' H' p ys, JH H0 H H0' H' → H' p = none → H p = none → DRs X.K H0' ((srtK kd bs).map enc) ys → Q (.ref p) (upd H' p (.lst ys))) := by
  intro pins s σ H vs zs us ws Q I rv rz h
  obtain ⟨l, xs, H0, rfl, rfl, hs, s0, hd, q⟩ := h
  rw [Vals.ref1 rv, Vals.ref1 rz]
  obtain ⟨its, T, o, n, hT, rvs, ho, hc, hdat, hz⟩ : ∃ (its : List Value) (T : String) (o : Obj) (n : Nat), (T = "list" ∨ T = "tuple") ∧ Vals xs its ∧ s.heap.get? l = some o ∧ o.cls = .type T ∧ o.data = .seq its.toArray n ∧ its.length ≤ sizeLine := by
    rcases hs with hs | hs
    · obtain ⟨its, r, ⟨o, n, e1, e2, _, e3⟩, z⟩ := I.list hs
      exact ⟨its, "list", o, n, .inl rfl, r, e1, e2, e3, by rw [← r.length]; exact z⟩
    · obtain ⟨its, r, ⟨o, e1, e2, n, e3⟩, z⟩ := I.tuple hs
      exact ⟨its, "tuple", o, n, .inr rfl, r, e1, e2, e3, by rw [← r.length]; exact z⟩
  have hv : All2 (fun u b => VD X.K H0 u (enc b)) its bs := by
    have h1 := vd_of hd rvs
    clear h1 q
    have : ∀ {us : List Value} {cs : List β} {ws : List V}, DRs X.K H0 (cs.map enc) ws → Vals ws us → All2 (fun u b => VD X.K H0 u (enc b)) us cs := by
      intro us cs
      induction cs generalizing us with
      | nil => intro ws h r; cases (show ws = [] from h); cases r; exact .nil
      | cons c cs ih =>
        intro ws h r
        obtain ⟨v, w, rfl, h1, h2⟩ := h
        cases r with
        | cons r1 r2 => exact .cons ⟨v, r1, h1⟩ (ih h2 r2)
    exact this hd rvs
  refine PyProof.Rows.call_function_entry_kw PyProof.Rows.kind_sorted PyProof.Rows.plain_sorted PyProof.Rows.entry_sorted (PyProof.Rows.ksk_s1 _ _) ?_
  unfold Builtin.«sorted»
  refine wpAny_bind (m := checkCount "sorted" 1 1 _) (wpAny_pure ?_)
  refine wpAny_bind (wpAny_collect_seq l hT ho hc hdat (fun h1 hk1 => ?_) (by rw [List.size_toArray]; exact hz))
  rw [List.toList_toArray]
  refine wpAny_bind (wpAny_newList ?_ hz)
  have I1 : Inv X pins σ H { s with heap := h1 } := I.kept hk1
  have at1 : (h1.push (seqObj "list" its.toArray 0)).get? h1.objs.size = some (seqObj "list" its.toArray 0) := Heap.get?_push_size _ rfl
  refine wpAny_bind (wpAny_holding (PyProof.Rows.wpAny_call_entry_kw PyProof.Rows.slot_list_sort ⟨_, at1, rfl⟩ PyProof.Rows.entry_list_sort ?_ (PyProof.Rows.ksk_l1 _ _)))
  show wpAny (model X.prog X.w) X.A.in1.in1 (Builtin.«list.sort» ⟨[.ref h1.objs.size], [(Str.ofString "key", .ref f)]⟩) _ _ _
  rw [ksk_t1]
  unfold ksk_tree
  refine wpAny_bind (listItems_at at1 rfl ?_)
  refine wpAny_bind (listUpdate_at at1 rfl ?_ (by rw [List.size_toArray]; exact hz) (Nat.zero_le _))
  obtain ⟨e1, at2⟩ : ∃ e1, ((h1.push (seqObj "list" its.toArray 0)).update h1.objs.size (Obj.mapSeq fun _ => (#[] : Array Value))).get? h1.objs.size = some (seqObj "list" #[] e1) := ⟨_, get?_update_seq at1 fun _ => #[]⟩
  refine wpAny_bind (seqEpoch_at at2 rfl ?_)
  refine wpAny_bind (wpAny_newTuple ?_ (by rw [List.toList_toArray]; exact hz))
  refine wpAny_bind (wpAny_newList ?_ (Nat.zero_le _))
  refine wpAny_holding ?_
  obtain ⟨g1, hg1⟩ : ∃ g, g = (h1.push (seqObj "list" its.toArray 0)).update h1.objs.size (Obj.mapSeq fun _ => (#[] : Array Value)) := ⟨_, rfl⟩
  have sz1 : g1.objs.size = h1.objs.size + 1 := by rw [hg1, Heap.size_update, size_push']
  have kg : ∀ b o, h1.get? b = some o → g1.get? b = some o := fun b o e => by
    rw [hg1, Heap.get?_update_ne _ _ _ _ (Nat.ne_of_lt (Heap.lt_size e))]
    exact Heap.get?_push_of_some _ e
  have kg2 : ∀ b o, g1.get? b = some o → ((g1.push (seqObj "tuple" its.toArray 0)).push (seqObj "list" #[] 0)).get? b = some o := fun b o e => Heap.get?_push_of_some _ (Heap.get?_push_of_some _ e)
  have I2 : Inv X pins σ H { s with heap := (g1.push (seqObj "tuple" its.toArray 0)).push (seqObj "list" #[] 0) } := I1.kept (fun b o e => kg2 b o (kg b o e))
  have szk : (g1.push (seqObj "tuple" its.toArray 0)).objs.size = h1.objs.size + 2 := by rw [size_push', sz1]
  have fa : FpOk X pins H h1.objs.size := I1.fpOk (Nat.le_refl _) (I1.hok.fresh (Nat.le_refl _))
  have fk : FpOk X pins H (g1.push (seqObj "tuple" its.toArray 0)).objs.size := I1.fpOk (by rw [szk]; exact Nat.le_add_right _ 2) (I1.hok.fresh (by rw [szk]; exact Nat.le_add_right _ 2))
  have hpn : H h1.objs.size = none := fa.1
  rw [← hg1] at at2
  rw [← hg1]
  show wpAny (model X.prog X.w) X.A.in1.in1 _ _ _ { s with heap := (g1.push (seqObj "tuple" its.toArray 0)).push (seqObj "list" #[] 0) }
  refine sort_rest (kd := kd) (enc := enc) G hf hr hR ok hv hz I2 s0 fa fk (by rw [szk]; exact Nat.ne_of_gt (Nat.lt_succ_of_lt (Nat.lt_succ_self _))) (kg2 _ _ at2) (Heap.get?_push_size _ rfl) fun s' H0' H' ys g hn I' hd' => ?_
  exact ⟨_, rfl, wpAny_pure ⟨_, rfl, .ref h1.objs.size, _, I', rfl, q H0' H' _ ys g hn hpn hd'⟩⟩
variable {ρ : En}
/-- a list or a tuple -/
inductive SeqD : D → List D → Prop where
  | lst (ds) : SeqD (.lst ds) ds
  | tup (ds) : SeqD (.tup ds) ds
theorem id_seq {tg e : Expr} {d : D} {ds : List D} (h : SeqD d ds) (he : ED X ρ e d) : ID X ρ tg e ds := by
  cases h with
  | lst => exact id_list he
  | tup => exact id_tup he
theorem ed_fn {x : Str} {pos : Pos} {f : Addr} (hm : X.mg x = some (.ref f)) (hg : Gl X x) (hd : (x == ("__debug__" : Str)) = false := by decide) : ED X ρ (.Name x pos) (.ad f) := fun B0 B σ H0 H Q j k =>
  RE.of (pe_glob hg hm (v := .ref f) rfl hd) (k _ H0 H (JH.refl j.same) rfl)
/-- sorted(e, key=f) -/
theorem eo_sortedK {x : Str} {e : Expr} {p p1 p2 pos : Pos} {d : D} (G : Fn X.prog X.w X.K X.mg X.base x k R) (hr : Room (k + 2) X.A) (hgx : Gl X x) (hs : Gl X "sorted") (hms : X.mg "sorted" = none) (hd : SeqD d (bs.map enc)) (he : ED X ρ e d) (hR : ∀ b ∈ bs, R [enc b] (kd b)) (ok : KeyOk X.A kd bs) (hdb : (x == ("__debug__" : Str)) = false := by decide)
    (he1 : backTo pos (starEach [e] X.env) = (false, eval e X.env) :: backTo pos (starEach [] X.env) := by rfl) (hpl : (backTo pos (starEach [e] X.env)).any (·.1) = false := by rfl)
    (hall : (backToKw pos (keywordEach [⟨some "key", .Name x p1, p2⟩] X.env)).all (·.1.isSome) = true := by rfl) (hnone : (backToKw pos (keywordEach [⟨some "key", .Name x p1, p2⟩] X.env)).any (·.1.isNone) = false := by rfl) (hks : (backToKw pos (keywordEach [⟨some "key", .Name x p1, p2⟩] X.env)).filterMap (·.1) = ([("key" : Str)] : List Str) := by rfl) (hst : starEach [e] X.env = (false, eval e X.env) :: starEach [] X.env := by rfl) :
    EO X ρ (.Call (.Name "sorted" p) [e] [⟨some "key", .Name x p1, p2⟩] pos) (.lst ((srtK kd bs).map enc)) := fun B0 B σ H0 H Q j kk => by
  obtain ⟨f, _, _, _, hm, _, _⟩ := G.ex
  refine RE.of (pe_callBK (call_sortedK (bs := bs) (enc := enc) (kd := kd) G hm hr hR ok) hs hms bb_sorted pa_star (pk_cons pe_star pk_nil) (by decide) (by decide) he1 hpl hall hnone hks) ?_
  refine ad_cons (X := X) he ad_nil hst B0 B σ H0 H _ j fun vs G0 G1 g r => ed_fn hm hgx hdb B0 B σ G0 G1 _ (j.grow g) fun v L0 L g2 r2 => ?_
  cases (show v = .ref f from r2)
  obtain ⟨w, rfl, r1⟩ := r.one'
  have fin : ∀ H0' H' p ys, JH L0 L H0' H' → H' p = none → L p = none → DRs X.K H0' ((srtK kd bs).map enc) ys → Q (.ref p) (upd H' p (.lst ys)) := fun H0' H' p ys g3 n1 n2 rr => by
    have g4 := ((g.trans g2).trans g3)
    exact kk p _ H0' _ (g4.trans (JH.own g4.sh n1)) upd_same (g4.sh.free n1) ((g.trans g2).sB.free n2) ⟨ys, rfl, rr⟩
  have r1 := DR.mono g2.s0 _ _ r1
  cases hd with
  | lst =>
    obtain ⟨a, ys, rfl, h1, h2⟩ := r1
    exact ⟨a, ys, L0, rfl, rfl, .inl (g2.sh.seq h1), g2.sh, h2, fin⟩
  | tup =>
    obtain ⟨a, ys, rfl, h1, h2⟩ := r1
    exact ⟨a, ys, L0, rfl, rfl, .inr (Same.seqT g2.sh h1), g2.sh, h2, fin⟩
end
end DL
namespace DL
open PySem PySem.Spec PyProof.Rows L2
section
variable {X : Cx} {ρ : En} {Φ : Out → Prop} {e a b c : Expr} {pos : Pos} {d : D}
/-- while -/
theorem ws_whileU {γ U : Type} {body : List Stmt} (G : γ → U → List (Nat × Sl)) (V : En → U) (P : γ → Prop) (μ : γ → Nat) (g0 : γ) (hρ : upds ρ (G g0 (V ρ)) = ρ) (h0 : P g0)
    (hs : ∀ g u, P g → ∃ t, TD X (upds ρ (G g u)) c t ∧ (t = true → WSs X body (upds ρ (G g u)) (fun o => match o with | .nx r => ∃ g', upds ρ (G g' (V r)) = r ∧ P g' ∧ μ g' < μ g | .ct r => ∃ g', upds ρ (G g' (V r)) = r ∧ P g' ∧ μ g' < μ g | .bk r => Φ (.nx r) | .rt v => Φ (.rt v) | .ro c => Φ (.ro c) | .rc v cs => Φ (.rc v cs))) ∧ (t = false → Φ (.nx (upds ρ (G g u)))))
    (hp : PassesOwn (model X.prog X.w) X.A X.env X.xe := by exact PassesOwn.never) : WS X (.While c body [] pos) ρ Φ := fun B0 B σ H0 H Dn j k => by
  refine ⟨_, ps_while hp pt_star pss_star, fun m σ1 H1 => ∃ g u L0, m = μ g ∧ P g ∧ J X.K H0 B σ1 L0 H1 (upds ρ (G g u)), ⟨μ g0, g0, V ρ, H0, rfl, h0, by rw [hρ]; exact j.rebase⟩, ?_⟩
  rintro m σ1 H1 ⟨g, u, L0, rfl, p, j1⟩
  obtain ⟨t, ht, h1, h2⟩ := hs g u p
  refine ht H0 B σ1 L0 H1 _ j1 fun L1 H2 g1 => ?_
  cases t with
  | false => exact iteF (k _ (h2 rfl) σ1 L1 H2 (j.unbase (j1.grow g1)))
  | true =>
    refine iteT ⟨fun σ2 H3 => ∃ g' u' L0, μ g' < μ g ∧ P g' ∧ J X.K H0 B σ2 L0 H3 (upds ρ (G g' u')), fun σ2 H3 ⟨g', u', L2, hm, p', j'⟩ => ⟨μ g', hm, g', u', L2, rfl, p', j'⟩, ?_⟩
    refine h1 rfl H0 B σ1 L1 H2 _ (j1.grow g1) fun o ho => ?_
    cases o with
    | nx r => exact fun σ3 M0 M j3 => by obtain ⟨g', e1, p', hm⟩ := ho; exact ⟨g', V r, M0, hm, p', by rw [e1]; exact j3⟩
    | ct r => exact fun σ3 M0 M j3 => by obtain ⟨g', e1, p', hm⟩ := ho; exact ⟨g', V r, M0, hm, p', by rw [e1]; exact j3⟩
    | bk r => exact fun σ3 M0 M j3 => k _ ho σ3 M0 M (j.unbase j3)
    | rt v => exact fun v' M0 M g r => k _ ho v' M0 M ⟨j.hp.s0.trans g.s0, g.sh, g.sB, fun b u e n e' => g.fr b u e n (j.hp.fr b u e n e')⟩ r
    | ro c => exact fun a o M0 M g h1 h2 h3 r => k _ ho a o M0 M ⟨j.hp.s0.trans g.s0, g.sh, g.sB, fun b u e n e' => g.fr b u e n (j.hp.fr b u e n e')⟩ h1 h2 h3 r
    | rc v cs => exact fun a M0 M g h1 h2 r => k _ ho a M0 M ⟨j.hp.s0.trans g.s0, g.sh, g.sB, fun b u e n e' => g.fr b u e n (j.hp.fr b u e n e')⟩ h1 h2 r
end
end DL
namespace DL
open PySem PySem.Spec PyProof.Rows L2
section
variable {X : Cx} {ρ : En} {a b : Expr} {pos : Pos}
theorem op_catL : OpR X (binaryOp .Add) (fun x y H Q => ∃ (l m : Addr) (xs zs : List V), x = .ref l ∧ y = .ref m ∧ SqL X.K H l xs ∧ SqL X.K H m zs ∧ xs.length + zs.length ≤ sizeLine ∧ ∀ p, H p = none → Q (.ref p) (upd H p (.lst (xs ++ zs)))) := by
  intro pins s σ H x y v u Q I rx ry h
  obtain ⟨l, m, xs, zs, rfl, rfl, h1, h2, hz, q⟩ := h
  cases rx
  cases ry
  obtain ⟨its, r1, ⟨⟨c1, d1, t1, s1⟩, n1, o1, e1, _, f1⟩, _⟩ := I.list h1
  obtain ⟨jts, r2, ⟨⟨c2, d2, t2, s2⟩, n2, o2, e2, _, f2⟩, _⟩ := I.list h2
  simp only at e1 f1 e2 f2
  subst e1 f1 e2 f2
  have hl : its.length + jts.length ≤ sizeLine := by rw [← r1.length, ← r2.length]; exact hz
  refine concat_meets ⟨_, o1, rfl⟩ ⟨_, o2, rfl⟩ noFill_list_add seq_list_add PySem.F.slot_list_add PySem.F.entry_list_add (PySem.F.args_list_add_2 _ _) (list_addW l m its.toArray jts.toArray n1 n2 d1 d2 s1 s2 (by simpa using hl)) ⟨o1, o2, ?_⟩
  have ea : its.toArray ++ jts.toArray = (its ++ jts).toArray := by simp
  rw [ea]
  exact ⟨.ref _, _, I.lnew (t' := s.toks) (r1.append r2) (by rw [List.length_append]; omega), rfl, q _ I.fresh⟩
/-- a + b, lists -/
theorem eo_cat {ds es : List D} (ha : ED X ρ a (.lst ds)) (hb : ED X ρ b (.lst es)) (hl : ds.length + es.length ≤ sizeLine) : EO X ρ (.BinOp a .Add b pos) (.lst (ds ++ es)) := fun B0 B σ H0 H Q j k =>
  RE.of (pe_op op_catL pe_star pe_star) (ha B0 B σ H0 H _ j fun x G0 G g1 r1 => hb B0 B σ G0 G _ (j.grow g1) fun y L0 L g2 r2 => by
    obtain ⟨p, vs, rfl, h1, h2⟩ := DR.mono g2.s0 _ _ r1
    obtain ⟨q, ws, rfl, h3, h4⟩ := r2
    exact ⟨p, q, vs, ws, rfl, rfl, g2.sh.seq h1, g2.sh.seq h3, by rw [← DRs.length h2, ← DRs.length h4]; exact hl, fun z hz => k z _ L0 _ ((g1.trans g2).trans (JH.own g2.sh hz)) upd_same (g2.sh.free hz) ((g1.trans g2).sB.free hz) ⟨_, rfl, DRs.app h2 h4⟩⟩)
end
end DL
namespace DL
open PySem PySem.Spec PyProof.Rows L2
section
variable {X : Cx} {ρ : En} {pos : Pos} {a b e : Expr}
theorem op_notInSq (hu : X.A.units + 1 < cLine) : OpR X (compareOp .NotIn) (fun x y H Q => ∃ (a b : Addr) (kvs : List (List Key × V)) (k : List Key), x = .ref b ∧ y = .ref a ∧ Rd H a (.dT kvs) ∧ SqT X.K H b (k.map kV) ∧ Q (.bl (!(valV kvs k).isSome)) H) := by
  rintro pins s σ H x y v u Q I rx ry ⟨a, b, kvs, k, rfl, rfl, h1, h2, q⟩
  cases (show v = Value.ref b from rx); cases (show u = Value.ref a from ry)
  obtain ⟨z, hd, xs, rel, dd⟩ := dt_rd I.hok h1
  obtain ⟨its, r, ⟨o, e, c, n, dat⟩, _⟩ := I.tuple h2
  refine wpAny_notIn_heap (tupleKind_room_in1 hu) (k := k) ⟨o, its.toArray, n, e, c, dat, by simpa using items_are r⟩ hd dd ?_
  have qq := (rel.val k).isSome_eq
  rw [Option.isSome_map] at qq
  rw [← qq]
  exact ⟨.bl (!(valV kvs k).isSome), H, I.tok _, rfl, q⟩
theorem bx_inj {l m : List Bx} : l.map Bx.e = m.map Bx.e ↔ l = m := List.map_inj_right (f := Bx.e) (fun a b e => Bx.inj e)
theorem c2_eqBx {l m : List Bx} (hu : X.A.units + 64 < cLine) : C2 X .Eq (.tup (l.map Bx.e)) (.tup (m.map Bx.e)) (.bl (decide (l = m))) :=
  c2_eqC (n := 2) (m := 2) hu (.tup Bx.cms) (.tup Bx.cms) (by simp [bx_inj])
theorem c2_neBx {l m : List Bx} (hu : X.A.units + 64 < cLine) : C2 X .NotEq (.tup (l.map Bx.e)) (.tup (m.map Bx.e)) (.bl (!decide (l = m))) :=
  c2_neC (n := 2) (m := 2) hu (.tup Bx.cms) (.tup Bx.cms) (by simp [bx_inj])
end
end DL
namespace DL
open PySem PySem.Spec PyProof.Rows L2
/-- what the top says of a class: cn its name, fs its fields -/
structure Kl (K : PySem.W.Frag) (mg : Str → Option Value) (cn : Str) (fs : List Str) : Prop where
  ex : ∃ C, PySem.W.nsIn K mainGlobals cn = some (some (.ref C)) ∧ mg cn = some (.ref C) ∧ C8.InsC K C ∧ PySem.W.keepIn K (.ref C) = true ∧ ∀ f ∈ fs, NoAttr K C f
theorem kit_self {K : PySem.W.Frag} {C : Addr} : PySem.W.kitOne K (.ref C) (.ref C) = some true := by
  unfold PySem.W.kitOne
  exact if_pos (by first | rfl | simp | decide)
theorem zip_at {f : Str} : ∀ {ns : List Str} {vs : List V} {i : Nat} {v : V}, ns[i]? = some f → (ns.take i).contains f = false → vs[i]? = some v → (ns.zip vs).lookup f = some v
  | n :: ns, w :: vs, 0, v, h1, _, h3 => by
    simp only [List.getElem?_cons_zero, Option.some.injEq] at h1 h3
    subst h1; subst h3
    simp [List.lookup_cons]
  | n :: ns, w :: vs, i + 1, v, h1, h2, h3 => by
    simp only [List.getElem?_cons_succ] at h1 h3
    rw [List.take_succ_cons, List.contains_cons, Bool.or_eq_false_iff] at h2
    rw [List.zip_cons_cons, List.lookup_cons]
    rw [h2.1]
    exact zip_at h1 h2.2 h3
  | [], vs, i, v, h1, _, _ => by simp at h1
  | n :: ns, [], i, v, _, _, h3 => by simp at h3
theorem zip_none {m : Str} : ∀ {ns : List Str} {vs : List V}, ns.contains m = false → (ns.zip vs).lookup m = none
  | [], vs, _ => by simp
  | n :: ns, [], _ => by simp
  | n :: ns, v :: vs, h => by
    rw [List.contains_cons, Bool.or_eq_false_iff] at h
    rw [List.zip_cons_cons, List.lookup_cons, h.1]
    exact zip_none h.2
theorem putF_new {f : Str} {y : V} : ∀ {ns : List Str} {vs : List V}, ns.contains f = false → ns.length = vs.length → putF f y (ns.zip vs) = (ns ++ [f]).zip (vs ++ [y])
  | [], [], _, _ => rfl
  | n :: ns, v :: vs, h, hl => by
    rw [List.contains_cons, Bool.or_eq_false_iff] at h
    have hne : ¬ (n = f) := fun e => by rw [e] at h; simp at h
    show (if n = f then _ else (n, v) :: putF f y (ns.zip vs)) = _
    rw [if_neg hne, putF_new h.2 (by simpa using hl)]
    rfl
  | [], v :: vs, _, hl => by simp at hl
  | n :: ns, [], _, hl => by simp at hl
section
variable {X : Cx} {ρ : En} {e : Expr} {pos : Pos} {cn f : Str} {ns fs : List Str} {ds : List D} {d : D}
/-- e.f, e an instance that is shared -/
theorem ed_fld (i : Nat) (kl : Kl X.K X.mg cn fs) (he : ED X ρ e (.obj cn ns ds)) (hn : ns[i]? = some f := by rfl) (hd : ds[i]? = some d := by rfl) (hu : (ns.take i).contains f = false := by decide +kernel) (hf : f ∈ fs := by decide +kernel)
    (hb : attributeBase e f X.env (eval e X.env) = eval e X.env := by rfl) : ED X ρ (.Attribute e f pos) d := fun B0 B σ H0 H Q j k => by
  refine RE.of (pe_fld pe_star hb) (he B0 B σ H0 H _ j fun v G0 G g r => ?_)
  obtain ⟨a, C, dx, vs, rfl, hC, ha, hlen, hvs⟩ := r
  obtain ⟨C', hC', hm, hc, hk, hna⟩ := kl.ex
  rw [hC] at hC'; cases hC'
  obtain ⟨v, hv, rv⟩ := DRs.get hvs hd
  exact ⟨a, C, dx, _, v, rfl, g.sh _ _ ha, hc.cl, hna f hf, zip_at hn hu hv, k v G0 G g rv⟩
/-- e.f, e the instance that slot s holds as its own -/
theorem ed_fldO (s i : Nat) {a : Addr} {x : Str} {p : Pos} (kl : Kl X.K X.mg cn fs) (hρ : ρ[s]? = some (.ox [(a, .ins cn ns ds)] (.ad a))) (hn : ns[i]? = some f := by rfl) (hd : ds[i]? = some d := by rfl) (hu : (ns.take i).contains f = false := by decide +kernel) (hf : f ∈ fs := by decide +kernel)
    (hN : X.N[s]? = some x := by rfl) (hv : Vis X.env.scope x := by first | exact Or.inl rfl | exact Or.inr (Or.inl rfl) | exact Or.inr (Or.inr rfl)) (hdb : (x == ("__debug__" : Str)) = false := by decide) (hcd : (x == ("__classdict__" : Str)) = false := by decide)
    (hb : attributeBase (.Name x p) f X.env (eval (.Name x p) X.env) = eval (.Name x p) X.env := by rfl) : ED X ρ (.Attribute (.Name x p) f pos) d := fun B0 B σ H0 H Q j k => by
  obtain ⟨ov, e1, ⟨v, rfl, rv⟩, hcs, _⟩ := j.get hρ
  cases (show v = .ref a from rv)
  obtain ⟨o, h1, h2, h3, h4⟩ := (hcs _ (List.mem_singleton_self _)).ex
  obtain ⟨vs, C, dx, rfl, hC, hlen, hvs⟩ := h4
  obtain ⟨C', hC', hm, hc, hk, hna⟩ := kl.ex
  rw [hC] at hC'; cases hC'
  obtain ⟨v, hv', rv⟩ := DRs.get hvs hd
  exact RE.of (pe_fld (pe_var hN hv hdb hcd) hb) ⟨_, e1, a, C, dx, _, v, rfl, h1, hc.cl, hna f hf, zip_at hn hu hv', k v H0 H (JH.refl j.same) rv⟩
/-- self.f = e, a new field -/
theorem ws_setF (s : Nat) {a : Addr} {x : Str} {p pos' : Pos} {value : Expr} {Φ : Out → Prop} (kl : Kl X.K X.mg cn fs) (hρ : ρ[s]? = some (.ox [(a, .ins cn ns ds)] (.ad a))) (hv : ED X ρ value d) (hΦ : Φ (.nx (ρ.set s (.ox [(a, .ins cn (ns ++ [f]) (ds ++ [d]))] (.ad a)))))
    (hnew : ns.contains f = false := by decide +kernel) (hf : f ∈ fs := by decide +kernel) (hlt : ns.length < 1000 := by decide)
    (hN : X.N[s]? = some x := by rfl) (hvis : Vis X.env.scope x := by first | exact Or.inl rfl | exact Or.inr (Or.inl rfl) | exact Or.inr (Or.inr rfl)) (hdb : (x == ("__debug__" : Str)) = false := by decide) (hcd : (x == ("__classdict__" : Str)) = false := by decide)
    (hs : swapsWith value (some (.Attribute (.Name x p) f pos')) pos.line X.env = pure false := by rfl) : WS X (.Assign [.Attribute (.Name x p) f pos'] value pos) ρ Φ := fun B0 B σ H0 H Dn j k => by
  refine ⟨_, ps_fld (pe_var hN hvis hdb hcd) pe_star hs, hv B0 B σ H0 H _ j fun v G0 G g r => ?_⟩
  have j1 := j.grow g
  obtain ⟨ov, e1, ⟨v1, rfl, rv⟩, hcs, _⟩ := j1.get hρ
  cases (show v1 = .ref a from rv)
  obtain ⟨o, h1, h2, h3, h4⟩ := (hcs _ (List.mem_singleton_self _)).ex
  obtain ⟨vs, C, dx, rfl, hC, hlen, hvs⟩ := h4
  obtain ⟨C', hC', hm, hc, hk, hna⟩ := kl.ex
  rw [hC] at hC'; cases hC'
  have hl : (ns.zip vs).length < 1000 := by rw [List.length_zip]; omega
  refine ⟨_, e1, a, C, dx, _, rfl, h1, hc.cl, hna f hf, hl, ?_⟩
  rw [putF_new hnew hlen]
  have j2 := j1.put (c' := .ins cn (ns ++ [f]) (ds ++ [d])) (o := .ins C dx ((ns ++ [f]).zip (vs ++ [v]))) hρ (List.mem_singleton_self _) ⟨vs ++ [v], C, dx, rfl, hC, by simp [hlen], DRs.app hvs (DRs.one r)⟩
  have e : putC [(a, OC.ins cn ns ds)] a (.ins cn (ns ++ [f]) (ds ++ [d])) = [(a, .ins cn (ns ++ [f]) (ds ++ [d]))] := by simp [putC]
  rw [e] at j2
  exact k _ hΦ _ _ _ j2
end
/-- a heap without a -/
def er (H : Hp) (a : Addr) : Hp := fun b => if b = a then none else H b
theorem er_same {H : Hp} {a : Addr} : er H a a = none := if_pos rfl
theorem er_ne {H : Hp} {a b : Addr} (h : b ≠ a) : er H a b = H b := if_neg h
theorem er_sub {H : Hp} {a : Addr} : Same (er H a) H := fun b u e => by
  by_cases h : b = a
  · subst h; rw [er_same] at e; cases e
  · rwa [er_ne h] at e
/-- __init__'s promise: R of the arguments, the fields' names, the fields -/
def spI (K : PySem.W.Frag) (cn : Str) (R : List D → List Str → List D → Prop) : Sp := fun vs H Q _ => ∃ H0 a C dx ds ns es ws, vs = .ref a :: ws ∧ PySem.W.nsIn K mainGlobals cn = some (some (.ref C)) ∧ Same H0 H ∧ H a = some (.ins C dx []) ∧ H0 a = none ∧ DRs K H0 ds ws ∧ R ds ns es ∧
  ∀ H0' H' o, JH H0 (er H a) H0' H' → H' a = some o → H0' a = none → OCR K H0' (.ins cn ns es) o → Q .non H'
def enI (N : List Str) (a : Addr) (cn : Str) (ds : List D) : En := .ox [(a, .ins cn [] [])] (.ad a) :: (ds.map Sl.sh ++ List.replicate (N.length - (ds.length + 1)) Sl.no)
section
variable {P : Program} {w : World} {K : PySem.W.Frag} {mg : Str → Option Value} {base : Heap}
theorem j_startI {N : List Str} {H0 H : Hp} {a C dx : Addr} {cn : Str} {ds : List D} {vs : List V} (s : Same H0 H) (hC : PySem.W.nsIn K mainGlobals cn = some (some (.ref C))) (ha : H a = some (.ins C dx [])) (h0 : H0 a = none) (r : DRs K H0 ds vs) (hl : ds.length + 1 ≤ N.length) : J K H0 (er H a) (L2.start N (.ref a :: vs)) H0 H (enI N a cn ds) := by
  have hlen := DRs.length r
  have kind : ∀ (i : Nat) s, (enI N a cn ds)[i]? = some s → i = 0 ∨ s = .no ∨ ∃ d, s = .sh d := fun i s h => by
    cases i with
    | zero => exact .inl rfl
    | succ i =>
      refine .inr ?_
      unfold enI at h
      rw [List.getElem?_cons_succ] at h
      by_cases hi : i < ds.length
      · rw [List.getElem?_append_left (by simpa using hi), List.getElem?_map, show ds[i]? = some ds[i] by simp [hi]] at h
        cases h; exact .inr ⟨_, rfl⟩
      · rw [List.getElem?_append_right (by simp; omega), List.getElem?_replicate] at h
        split at h
        · cases h; exact .inl rfl
        · cases h
  refine ⟨⟨Same.refl _, s, er_sub, fun b o e _ h => h⟩, by simp [L2.start, enI, hlen], fun i sl ov h1 h2 => ?_, fun i j s1 s2 o1 o2 b h1 h2 _ _ w1 w2 => ?_⟩
  · cases i with
    | zero =>
      unfold enI at h1
      unfold L2.start at h2
      simp only [List.getElem?_cons_zero, Option.some.injEq, List.map_cons, List.cons_append] at h1 h2
      subst h1; subst h2
      refine ⟨⟨_, rfl, rfl⟩, fun p hp => ?_, by simp⟩
      rw [List.mem_singleton] at hp; subst hp
      exact ⟨_, ha, h0, er_same, [], C, dx, rfl, hC, rfl, rfl⟩
    | succ i =>
      unfold enI at h1
      unfold L2.start at h2
      simp only [List.getElem?_cons_succ, List.map_cons, List.cons_append] at h1 h2
      by_cases hi : i < ds.length
      · rw [List.getElem?_append_left (by simpa using hi), List.getElem?_map] at h1
        rw [List.getElem?_append_left (by simp; omega), List.getElem?_map] at h2
        obtain ⟨v, e1, e2⟩ := DRs.get r (show ds[i]? = some ds[i] by simp [hi])
        rw [show ds[i]? = some ds[i] by simp [hi]] at h1
        rw [e1] at h2
        cases h1; cases h2
        exact ⟨v, rfl, e2⟩
      · rw [List.getElem?_append_right (by simp; omega), List.getElem?_replicate] at h1
        split at h1
        · cases h1; trivial
        · cases h1
  · rcases kind i s1 h1 with e1 | e1
    · rcases kind j s2 h2 with e2 | e2
      · rw [e1, e2]
      · exact absurd w2 (Owns.none e2 b)
    · exact absurd w1 (Owns.none e1 b)
theorem fn_okI {x qual : Str} {st : Stmt} {f : Addr} {fd : FuncData} {N ps : List Str} {k : Nat} {cn : Str} {R : List D → List Str → List D → Prop} (F : Fun K x qual st f fd) (S : FnScope N ps (defScope st)) (hR : ∀ ds ns es, R ds ns es → ds.length + 1 = ps.length)
    (h : ∀ a ds ns es, R ds ns es → ∀ (cdv : Value) (A : Around) (outer : List Env) (s : Shared) (H : Hp) (E : XK), Room k (A.deeper (envOfC qual (defScope st) s.heap.objs.size f cdv)) →
      WSs (bx P w K mg base N qual st f cdv A outer s H E) (defBody st) (enI N a cn ds) (fun o => ∃ ρ es', o = .nx ρ ∧ ρ[0]? = some (.ox [(a, .ins cn ns es')] (.ad a)) ∧ ∀ H vs, DRs K H es' vs → DRs K H es vs)) : FnOk P w K mg base CX0 (k + 1) f fd ps (spI K cn R) := by
  refine F.ok S (fun vs H Q E hs => ?_) fun cdv A outer s H vs Q E hr hs => ?_
  · obtain ⟨H0, a, C, dx, ds, ns, es, ws, rfl, hC, s0, ha, h0, r, q, _⟩ := hs
    rw [List.length_cons, ← DRs.length r]; exact hR ds ns es q
  · obtain ⟨H0, a, C, dx, ds, ns, es, ws, rfl, hC, s0, ha, h0, r, q, kk⟩ := hs
    have hN : ds.length + 1 ≤ N.length := by
      have h1 := hR ds ns es q
      have h2 := congrArg List.length S.pre
      rw [List.length_take] at h2
      omega
    obtain ⟨t, h1, h2⟩ := h a ds ns es q cdv A outer s H E hr H0 (er H a) (L2.start N (.ref a :: ws)) H0 H (j_startI s0 hC ha h0 r hN) (Dn := { nx := fun _ H' => Q .non H', rt := Q }) fun o ho => by
      obtain ⟨ρ, es', rfl, hρ, hw⟩ := ho
      intro σ G0 G j
      obtain ⟨ov, e1, ⟨v, rfl, rv⟩, hcs, _⟩ := j.get hρ
      obtain ⟨o, g1, g2, g3, g4⟩ := (hcs _ (List.mem_singleton_self _)).ex
      obtain ⟨vs, C', dx', e1, e2, e3, e4⟩ := g4
      exact kk G0 G o j.hp g1 g2 ⟨vs, C', dx', e1, e2, e3, hw _ _ e4⟩
    exact ⟨t, h1, h2⟩
/-- a class that is made by calling it -/
structure FnI (P : Program) (w : World) (K : PySem.W.Frag) (mg : Str → Option Value) (base : Heap) (cn : Str) (k : Nat) (R : List D → List Str → List D → Prop) : Prop where
  ex : ∃ C f fd ps, PySem.W.nsIn K mainGlobals cn = some (some (.ref C)) ∧ mg cn = some (.ref C) ∧ Mk K C f ∧ FnOk P w K mg base CX0 k f fd ps (spI K cn R) ∧ Binds K fd ps []
theorem eo_make {X : Cx} {ρ : En} {e : Expr} {pos : Pos} {cn : Str} {k : Nat} {R : List D → List Str → List D → Prop} {es : List Expr} {ds zs : List D} {ns : List Str} {p : Pos} (G : FnI X.prog X.w X.K X.mg X.base cn k R) (hr : Room (k + 1) X.A) (hg : Gl X cn) (ha : AD X ρ (e :: es) ds) (hR : R ds ns zs)
    (hdb : (cn == ("__debug__" : Str)) = false := by decide +kernel) (he : starEach (e :: es) X.env = (false, eval e X.env) :: starEach es X.env := by rfl) (hpl : (backTo pos (starEach es X.env)).any (·.1) = false := by rfl) :
    EO X ρ (.Call (.Name cn p) (e :: es) [] pos) (.ins cn ns zs) := fun B0 B σ H0 H Q j kk => by
  obtain ⟨C, f, fd, ps, hC, hm, M, F, hb⟩ := G.ex
  refine RE.of (pe_make (E := E0) M F hr hg hm hb .nil pass0 pa_star hdb he hpl) (ha B0 B σ H0 H _ j fun vs G0 G g r => ?_)
  intro x dx hx hdx hne
  rw [List.append_nil]
  have g0x : G0 x = none := g.sh.free hx
  have g0d : G0 dx = none := g.sh.free hdx
  have s1 : Same G0 (upd (upd G dx (.own x)) x (.ins C dx [])) := fun b u q => by
    rw [upd_ne (ne_of_none q g0x), upd_ne (ne_of_none q g0d)]
    exact g.sh b u q
  have sE : ∀ b u, G b = some u → er (upd (upd G dx (.own x)) x (.ins C dx [])) x b = some u := fun b u q => by
    have n1 := ne_of_none q hx
    rw [er_ne n1, upd_ne n1, upd_ne (ne_of_none q hdx)]
    exact q
  refine ⟨G0, x, C, dx, ds, ns, zs, vs, rfl, hC, s1, upd_same, g0x, r, hR, fun L0 L o gg e1 e2 e3 => ⟨rfl, ?_⟩⟩
  exact kk x o L0 L (g.trans ⟨gg.s0, gg.sh, fun b u q => gg.sB b u (sE b u q), fun b u q nt q' => gg.fr b u (sE b u q) nt q'⟩) e1 e2 (g.sB.free hx) e3
structure FnM (P : Program) (w : World) (K : PySem.W.Frag) (mg : Str → Option Value) (base : Heap) (cn m : Str) (k : Nat) (R : List D → D → Prop) : Prop where
  ex : ∃ C f fd ps, PySem.W.nsIn K mainGlobals cn = some (some (.ref C)) ∧ Cls K C ∧ Meth K C m f ∧ FnOk P w K mg base CX0 k f fd ps (spR K R) ∧ Binds K fd ps []
theorem ed_meth {X : Cx} {ρ : En} {o e : Expr} {pos apos : Pos} {cn m : Str} {k : Nat} {R : List D → D → Prop} {es : List Expr} {ds fds : List D} {ns : List Str} {d : D} {pl : Sem Bool} (G : FnM X.prog X.w X.K X.mg X.base cn m k R) (hr : Room k X.A) (ho : ED X ρ o (.obj cn ns fds)) (ha : AD X ρ (e :: es) ds) (hR : R (.obj cn ns fds :: ds) d)
    (hm : ns.contains m = false := by decide +kernel)
    (hst : starEach (e :: es) X.env = (false, eval e X.env) :: starEach es X.env := by rfl) (hpl : (backTo pos (starEach es X.env)).any (·.1) = false := by rfl)
    (ht : eval (.Call (.Attribute o m apos) (e :: es) [] pos) X.env = (do
      let ov ← eval o X.env
      standAt apos.atName
      let (f, first) ← holding [ov] (getMethod ov m pl)
      callWith pos f first (backTo pos (starEach (e :: es) X.env)) (backToKw pos (keywordEach [] X.env))) := by rfl) :
    ED X ρ (.Call (.Attribute o m apos) (e :: es) [] pos) d := fun B0 B σ H0 H Q j kk => by
  obtain ⟨C, f, fd, ps, hC, hc, hmt, F, hb⟩ := G.ex
  refine RE.of (pe_meth (E := E0) pe_star hc hmt F hr hb .nil pass0 pa_star hst hpl ht) (ho B0 B σ H0 H _ j fun v G0 G g r => ?_)
  obtain ⟨a, C', dx, vs, rfl, hC', hA, hlen, hvs⟩ := id r
  rw [hC] at hC'; cases hC'
  refine ⟨a, dx, _, rfl, g.sh _ _ hA, zip_none hm, ha B0 B σ G0 G _ (j.grow g) fun ws L0 L g2 r2 => ?_⟩
  rw [List.append_nil]
  exact ⟨L0, .obj cn ns fds :: ds, d, g2.sh, ⟨_, _, rfl, DR.mono g2.s0 _ _ r, r2⟩, hR, fun v M0 M g3 r3 => kk v M0 M ((g.trans g2).trans g3) r3⟩
end
end DL
namespace DL
open PySem PySem.Spec PyProof.Rows L2
open PySem.W (EachIs AllAlike Sortable KeepsBut SortsAt KeyedOut dataLe dataKind alike sortingHeap sortingHeap_old)
section
variable {X : Cx} {ρ : En} {pos : Pos} {β : Type} {bs : List β} {enc : β → D}
theorem c2_leS {i j : Str} : C2 X .LtE (.str i) (.str j) (.bl (!decide (j.cps.toList < i.cps.toList))) := ⟨_, op_le_str, fun H0 H x y Q s r1 r2 k => by
  cases (show x = .str i from r1); cases (show y = .str j from r2)
  exact ⟨i, j, rfl, rfl, k _ H0 H (JH.refl s) rfl⟩⟩
end
end DL
namespace DL
open PySem PySem.Spec PyProof.Rows L2
local instance (priority := 2000) keyBEq : BEq Key := instBEqOfDecidableEq
/-- an int, a text as a key -/
def kD : Key → D
  | .inl i => .int i
  | .inr x => .str x
theorem kD_val {K : PySem.W.Frag} {H : Hp} {k : Key} {v : V} (h : DR K H (kD k) v) : v = kV k := by
  cases k with
  | inl i => exact h
  | inr x => exact h
end DL
namespace DL
open PySem PySem.Spec PyProof.Rows L2
theorem Paired.mono {α β : Type} {R R' : α → β → Prop} (m : ∀ a b, R a b → R' a b) : ∀ {as : List α} {bs : List β}, Paired R as bs → Paired R' as bs
  | _, _, .nil => .nil
  | _, _, .cons h t => .cons (m _ _ h) (Paired.mono m t)
section
variable {X : Cx} {ρ : En} {pos : Pos}
/-- t[lo:hi], t a tuple -/
theorem ed_sliceT {e : Expr} {lo hi : Option Expr} {p q : Option Int} {ds : List D} {p2 : Pos} (he : ED X ρ e (.tup ds)) (hl : Part X ρ lo p) (hh : Part X ρ hi q) : ED X ρ (.Subscript e (.Slice lo hi none p2) pos) (.tup (cutD ds p q)) := fun B0 B σ H0 H Q j k =>
  RE.of (pe_slice sl_tupA pe_star po_star po_star) (he B0 B σ H0 H _ j fun v G0 G g1 r => hl.run (j.grow g1) fun L0 L g2 => hh.run ((j.grow g1).grow g2) fun M0 M g3 => by
    obtain ⟨a, vs, rfl, h1, h2⟩ := r
    have g := g2.trans g3
    have h2' := DRs.mono g.s0 _ _ h2
    have h1' := Same.seqT (g.sh) (Same.seqT g.s0 h1)
    refine ⟨a, vs, rfl, h1', fun hw => k _ M0 M (g1.trans g) ⟨a, _, rfl, Same.seqT g.s0 h1, by
      have e : cutD ds p q = ds := by
        unfold cutD
        rw [DRs.length h2', hw.1, hw.2, List.drop_zero, Nat.sub_zero, ← DRs.length h2', List.take_length]
      rw [e]; exact h2'⟩, fun hw pp hp => ?_⟩
    have g4 : JH M0 M (upd M0 pp (.tup (cutV vs p q))) (upd M pp (.tup (cutV vs p q))) := JH.new g.sh hp
    exact k _ _ _ ((g1.trans g).trans g4) ⟨pp, _, rfl, SqT.of upd_same, DRs.mono g4.s0 _ _ (DRs.cut h2' _ _)⟩)
end
end DL
namespace DL
open PySem PySem.Spec PyProof.Rows L2
section
variable {X : Cx} {ρ : En} {pos : Pos}
theorem bc_intB {k : Bool} : BC X (.type "int") [.bl k] (.int (if k = true then 1 else 0)) := bc_keep call_int1 _ (fun _ => rfl) fun _ _ vs _ _ r q => by
  obtain ⟨x, rfl, h⟩ := r.one'
  cases (show x = .bl k from h)
  exact .inr ⟨k, rfl, by cases k <;> exact q⟩
theorem c2_inInts {i : Int} {ns : List Int} : C2 X .In (.int i) (.lst (ns.map .int)) (.bl (decide (i ∈ ns))) := ⟨_, op_in_seq, fun H0 H u v Q s r1 r2 k => by
  cases (show u = .int i from r1)
  obtain ⟨a, vs, rfl, h1, h2⟩ := r2
  rw [DRs.ints h2] at h1
  have hi : inV (.int i) (ns.map V.int) = decide (i ∈ ns) := by
    unfold inV
    rw [Bool.eq_iff_iff]
    simp only [List.any_eq_true, List.mem_map, decide_eq_true_eq]
    constructor
    · rintro ⟨v, ⟨y, hy, rfl⟩, h⟩
      have : y = i := by simpa [eqV] using h
      exact this ▸ hy
    · intro h
      exact ⟨.int i, ⟨i, h, rfl⟩, by simp [eqV]⟩
  refine ⟨a, _, rfl, .inl (s.seq h1), rfl, by simp [flatV], ?_⟩
  rw [hi]
  exact k _ H0 H (JH.refl s) rfl⟩
end
end DL
namespace DL
open PySem PySem.Spec PyProof.Rows L2
local instance (priority := 2000) keyBEq26 : BEq Key := instBEqOfDecidableEq
section
variable {X : Cx} {ρ : En} {pos : Pos}
structure FnMO (P : Program) (w : World) (K : PySem.W.Frag) (mg : Str → Option Value) (base : Heap) (cn m : Str) (k : Nat) (R : List D → OC → Prop) : Prop where
  ex : ∃ C f fd ps, PySem.W.nsIn K mainGlobals cn = some (some (.ref C)) ∧ Cls K C ∧ Meth K C m f ∧ FnOk P w K mg base CX0 k f fd ps (spO K R) ∧ Binds K fd ps []
theorem eo_meth {o e : Expr} {apos : Pos} {cn m : Str} {k : Nat} {R : List D → OC → Prop} {es : List Expr} {ds fds : List D} {ns : List Str} {c : OC} {pl : Sem Bool} (G : FnMO X.prog X.w X.K X.mg X.base cn m k R) (hr : Room k X.A) (ho : ED X ρ o (.obj cn ns fds)) (ha : AD X ρ (e :: es) ds) (hR : R (.obj cn ns fds :: ds) c)
    (hm : ns.contains m = false := by decide +kernel)
    (hst : starEach (e :: es) X.env = (false, eval e X.env) :: starEach es X.env := by rfl) (hpl : (backTo pos (starEach es X.env)).any (·.1) = false := by rfl)
    (ht : eval (.Call (.Attribute o m apos) (e :: es) [] pos) X.env = (do
      let ov ← eval o X.env
      standAt apos.atName
      let (f, first) ← holding [ov] (getMethod ov m pl)
      callWith pos f first (backTo pos (starEach (e :: es) X.env)) (backToKw pos (keywordEach [] X.env))) := by rfl) :
    EO X ρ (.Call (.Attribute o m apos) (e :: es) [] pos) c := fun B0 B σ H0 H Q j kk => by
  obtain ⟨C, f, fd, ps, hC, hc, hmt, F, hb⟩ := G.ex
  refine RE.of (pe_meth (E := E0) pe_star hc hmt F hr hb .nil pass0 pa_star hst hpl ht) (ho B0 B σ H0 H _ j fun v G0 G g r => ?_)
  obtain ⟨a, C', dx, vs, rfl, hC', hA, hlen, hvs⟩ := id r
  rw [hC] at hC'; cases hC'
  refine ⟨a, dx, _, rfl, g.sh _ _ hA, zip_none hm, ha B0 B σ G0 G _ (j.grow g) fun ws L0 L g2 r2 => ?_⟩
  rw [List.append_nil]
  exact ⟨L0, .obj cn ns fds :: ds, c, g2.sh, ⟨_, _, rfl, DR.mono g2.s0 _ _ r, r2⟩, hR, fun b o M0 M g3 e1 e2 e3 r3 => kk b o M0 M ((g.trans g2).trans g3) e1 e2 ((g.trans g2).sB.free e3) r3⟩
theorem ws_retE {e : Expr} {c : OC} {Φ : Out → Prop} (h : EO X ρ e c) (hΦ : Φ (.ro c)) : WS X (.Return (some e) pos) ρ Φ := fun B0 B σ H0 H Dn j k =>
  ⟨_, ps_ret pe_star, h B0 B σ H0 H _ j fun a o H0' H' g e1 e2 e3 r => k _ hΦ a o H0' H' (j.hp.trans g) e1 e2 (j.hp.sB.free e3) r⟩
end
end DL
namespace DL
open PySem PySem.Spec PyProof.Rows L2
/-- an own class of errors, over ValueError, without an __init__ of its own -/
structure Xc (K : PySem.W.Frag) (mg : Str → Option Value) (cn : Str) : Prop where
  ex : ∃ C, PySem.W.nsIn K mainGlobals cn = some (some (.ref C)) ∧ mg cn = some (.ref C) ∧ PySem.W.excIn K C [.type "ValueError", .type "Exception", .type "BaseException", .type "object"] "ValueError.__new__" = true ∧ PySem.W.keepIn K (.ref C) = true ∧
    PySem.W.subIn K (.ref C) (.type "BaseException") = some true ∧ PySem.W.typeIn K (.ref C) = some (.type "type") ∧ L2.ExcC K C
section
variable {X : Cx} {ρ ρx : En} {pos : Pos} {Φ : Out → Prop}
/-- try: body, where nothing is raised -/
theorem ws_try0 {body : List Stmt} {h0 : ExceptHandler} {hs : List ExceptHandler} (h : WSs X body ρ Φ) (hx : X.nox = X := by rfl) : WS X (.Try body (h0 :: hs) [] [] pos) ρ Φ := fun B0 B σ H0 H Dn j k =>
  ⟨_, ps_try_thru0 (t := RSs X body) (by rw [hx]; exact pss_star), h B0 B σ H0 H Dn j k⟩
end
end DL
namespace DL
open PySem PySem.Spec PyProof.Rows L2
/-- the class named cn is caught by except xn -/
structure Xm (K : PySem.W.Frag) (mg : Str → Option Value) (cn xn : Str) : Prop where
  ex : ∃ C D, PySem.W.nsIn K mainGlobals cn = some (some (.ref C)) ∧ mg xn = some (.ref D) ∧ PySem.W.exmOne K (.ref C) (.ref D) = some true
end DL
namespace DL
open PySem PySem.Spec PyProof.Rows L2
theorem putF_old {f : Str} {y : V} : ∀ {ns : List Str} {vs : List V} {m : Nat}, ns[m]? = some f → (ns.take m).contains f = false → ns.length = vs.length → putF f y (ns.zip vs) = ns.zip (vs.set m y)
  | n :: ns, v :: vs, 0, h, _, hl => by
    simp only [List.getElem?_cons_zero, Option.some.injEq] at h
    subst h
    show (if n = n then (n, y) :: ns.zip vs else _) = _
    rw [if_pos rfl]; rfl
  | n :: ns, v :: vs, m + 1, h, hc, hl => by
    rw [List.take_succ_cons, List.contains_cons, Bool.or_eq_false_iff] at hc
    have hne : ¬ (n = f) := fun e => by rw [e] at hc; simp at hc
    show (if n = f then _ else (n, v) :: putF f y (ns.zip vs)) = _
    rw [if_neg hne, putF_old (by simpa using h) hc.2 (by simpa using hl)]
    rfl
  | [], _, _, h, _, _ => by simp at h
  | n :: ns, [], _, _, _, hl => by simp at hl
section
variable {X : Cx} {ρ : En} {e : Expr} {pos : Pos} {cn f : Str} {ns fs : List Str} {ds : List D} {d : D}
/-- self.f = e, a field that stands already -/
theorem ws_setFU (s m : Nat) {a : Addr} {x : Str} {p pos' : Pos} {value : Expr} {Φ : Out → Prop} (kl : Kl X.K X.mg cn fs) (hρ : ρ[s]? = some (.ox [(a, .ins cn ns ds)] (.ad a))) (hv : ED X ρ value d) (hΦ : Φ (.nx (ρ.set s (.ox [(a, .ins cn ns (ds.set m d))] (.ad a)))))
    (hold : ns[m]? = some f := by rfl) (hu : (ns.take m).contains f = false := by decide +kernel) (hf : f ∈ fs := by decide +kernel) (hlt : ns.length < 1000 := by decide)
    (hN : X.N[s]? = some x := by rfl) (hvis : Vis X.env.scope x := by first | exact Or.inl rfl | exact Or.inr (Or.inl rfl) | exact Or.inr (Or.inr rfl)) (hdb : (x == ("__debug__" : Str)) = false := by decide) (hcd : (x == ("__classdict__" : Str)) = false := by decide)
    (hs : swapsWith value (some (.Attribute (.Name x p) f pos')) pos.line X.env = pure false := by rfl) : WS X (.Assign [.Attribute (.Name x p) f pos'] value pos) ρ Φ := fun B0 B σ H0 H Dn j k => by
  refine ⟨_, ps_fld (pe_var hN hvis hdb hcd) pe_star hs, hv B0 B σ H0 H _ j fun v G0 G g r => ?_⟩
  have j1 := j.grow g
  obtain ⟨ov, e1, ⟨v1, rfl, rv⟩, hcs, _⟩ := j1.get hρ
  cases (show v1 = .ref a from rv)
  obtain ⟨o, h1, h2, h3, h4⟩ := (hcs _ (List.mem_singleton_self _)).ex
  obtain ⟨vs, C, dx, rfl, hC, hlen, hvs⟩ := h4
  obtain ⟨C', hC', hm, hc, hk, hna⟩ := kl.ex
  rw [hC] at hC'; cases hC'
  have hl : (ns.zip vs).length < 1000 := by rw [List.length_zip]; omega
  refine ⟨_, e1, a, C, dx, _, rfl, h1, hc.cl, hna f hf, hl, ?_⟩
  rw [putF_old hold hu hlen]
  have hds : DRs X.K G0 (ds.set m d) (vs.set m v) := DRs.set r m hvs
  have j2 := j1.put (c' := .ins cn ns (ds.set m d)) (o := .ins C dx (ns.zip (vs.set m v))) hρ (List.mem_singleton_self _) ⟨vs.set m v, C, dx, rfl, hC, by simp [hlen], hds⟩
  have e : putC [(a, OC.ins cn ns ds)] a (.ins cn ns (ds.set m d)) = [(a, .ins cn ns (ds.set m d))] := by simp [putC]
  rw [e] at j2
  exact k _ hΦ _ _ _ j2
/-- x.extend(e), x the list that slot i owns, e a new list -/
theorem ws_extendL (i : Nat) {x : Str} {zs : List D} {p1 p2 p3 : Pos} {Φ : Out → Prop} (hi : ρ[i]? = some (.ow (.lst ds))) (he : EO X ρ e (.lst zs)) (hl : ds.length + zs.length ≤ sizeLine) (hΦ : Φ (.nx (ρ.set i (.ow (.lst (ds ++ zs))))))
    (hpe : ∀ {ta : TA}, PA X [e] ta → PS X (.Expr (.Call (.Attribute (.Name x p1) "extend" p2) [e] [] p3) pos) (tDrop (tBM X.K "list" rExtend (tVar i) ta)))
    (hs : starEach [e] X.env = (false, eval e X.env) :: starEach [] X.env := by rfl) :
    WS X (.Expr (.Call (.Attribute (.Name x p1) "extend" p2) [e] [] p3) pos) ρ Φ := fun B0 B σ H0 H Dn j k => by
  obtain ⟨ov, e0, a, o, rfl, w1, w2, w3, w4⟩ := j.get hi
  obtain ⟨vs0, rfl, r0⟩ := w4
  refine ⟨_, hpe (pa_cons pe_star pa_nil hs), _, e0, Or.inl ⟨rfl, _, Or.inl (Or.inl w1)⟩, he B0 B σ H0 H _ j fun q o G0 G g y1 y2 y3 y4 => ?_⟩
  obtain ⟨ws, rfl, rw⟩ := y4
  have j1 := j.grow g
  obtain ⟨ov, e1, a', o, e9, w1, w2, w3, w4⟩ := j1.get hi
  rw [e0] at e1; cases e1; cases e9
  obtain ⟨vs, rfl, r'⟩ := w4
  exact ⟨a, q, vs, ws, rfl, rfl, w1, y1, by rw [← DRs.length r', ← DRs.length rw]; exact hl, k _ hΦ _ G0 _ (j1.write hi e0 ⟨_, rfl, DRs.app r' rw⟩)⟩
end
end DL
namespace DL
open PySem PySem.Spec PyProof.Rows L2
theorem kit_ty {K : PySem.W.Frag} {C : Addr} {T : String} {b : Bool} (h4 : PySem.W.subIn K (.ref C) (.type T) = some b) (hm : PySem.W.kitMeta T = true := by decide +kernel) : PySem.W.kitOne K (.ref C) (.type T) = some b := by
  unfold PySem.W.kitOne
  rw [if_neg (show ¬ ((Value.ref C == Value.type T) = true) from Bool.false_ne_true)]
  show (if PySem.W.kitMeta T = true then PySem.W.subIn K (.ref C) (.type T) else none) = some b
  rw [if_pos hm]; exact h4
end DL
namespace DL
open PySem PySem.Spec PyProof.Rows L2
theorem zip_get {α β : Type} : ∀ {as : List α} {bs : List β} {i : Nat} {a : α} {b : β}, (as.zip bs)[i]? = some (a, b) → as[i]? = some a ∧ bs[i]? = some b
  | [], _, i, a, b, h => by simp at h
  | _ :: _, [], i, a, b, h => by simp at h
  | x :: as, y :: bs, 0, a, b, h => by simp at h; simp [h.1, h.2]
  | x :: as, y :: bs, i + 1, a, b, h => by
    have := zip_get (as := as) (bs := bs) (i := i) (a := a) (b := b) (by simpa using h)
    simpa using this
end DL
namespace DL
open PySem PySem.Spec PyProof.Rows L2
abbrev PW := List (List Key × Int)
end DL
namespace DL
open PySem PySem.Spec PyProof.Rows L2
/-- a heap without some places -/
def ers (H : Hp) (as : List Addr) : Hp := fun b => if b ∈ as then none else H b
theorem ers_in {H : Hp} {as : List Addr} {b : Addr} (h : b ∈ as) : ers H as b = none := if_pos h
theorem ers_out {H : Hp} {as : List Addr} {b : Addr} (h : b ∉ as) : ers H as b = H b := if_neg h
theorem ers_sub {H : Hp} {as : List Addr} : Same (ers H as) H := fun b u e => by
  by_cases h : b ∈ as
  · rw [ers_in h] at e; cases e
  · rwa [ers_out h] at e
abbrev Cs := List (Addr × OC)
abbrev pl (cs : Cs) : List Addr := cs.map (·.1)
section
variable {K : PySem.W.Frag} {B0 B H0 H H0' H' : Hp} {σ : L2.St} {ρ : En}
/-- what a slot owns, in another order -/
theorem J.perm (j : J K B0 B σ H0 H ρ) {i : Nat} {cs cs' : Cs} {d : D} (h : ρ[i]? = some (.ox cs d)) (p : cs.Perm cs') : J K B0 B σ H0 H (ρ.set i (.ox cs' d)) := by
  obtain ⟨ov, e1, f1, f2, f3⟩ := j.get h
  exact j.setSl (s := .ox cs' d) e1 ⟨f1, fun q hq => f2 q (p.mem_iff.mpr hq), (p.map _).nodup_iff.mp f3⟩ (j.sub h e1 fun a w => by
    have w' : a ∈ cs'.map (·.1) := w
    exact (p.map (·.1)).mem_iff.mpr w')
/-- what was lent comes back -/
theorem J.back (j : J K B0 B σ H0 H ρ) {i : Nat} {cs cs2 cs' : Cs} {d : D} (h : ρ[i]? = some (.ox (cs ++ cs2) d)) (g : JH H0 (ers H (pl cs)) H0' H') (hc : ∀ p ∈ cs', CellR K (ers H (pl cs)) H0' H' p.1 p.2) (nd : (pl cs').Nodup) :
    J K B0 B σ H0' H' (ρ.set i (.ox (cs' ++ cs2) d)) := by
  obtain ⟨ov, e1, ⟨v, rfl, rv⟩, f2, f3⟩ := j.get h
  have f3' := f3
  rw [List.map_append, List.nodup_append] at f3'
  obtain ⟨n1, n2, n3⟩ := f3'
  have Bn : ∀ a, a ∈ pl cs → B a = none := fun a ha => by
    obtain ⟨p, hp, rfl⟩ := List.mem_map.mp ha
    obtain ⟨o, _, _, q, _⟩ := (f2 p (List.mem_append_left _ hp)).ex
    exact q
  have sB : Same B (ers H (pl cs)) := fun b u e => by
    rw [ers_out fun hb => by rw [Bn b hb] at e; cases e]
    exact j.hp.sB b u e
  have eN : ∀ a, ers H (pl cs) a = none → B a = none := fun a ha => by
    cases hB : B a with
    | none => rfl
    | some u => rw [sB a u hB] at ha; cases ha
  have cell : ∀ {a : Addr} {c : OC}, a ∉ pl cs → CellR K B H0 H a c → CellR K B H0' H' a c := fun {a c} na ⟨o, q1, q2, q3, q4⟩ => by
    have q5 : ers H (pl cs) a = some o := by rw [ers_out na]; exact q1
    exact ⟨o, g.sB a o q5, g.fr a o q5 q4.nt q2, q3, q4.mono g.s0⟩
  have hl : i < ρ.length := (List.getElem?_eq_some_iff.mp h).1
  have oth : ∀ {k : Nat} {s : Sl} {ok : Option V} {a : Addr}, k ≠ i → ρ[k]? = some s → σ[k]? = some ok → Owns s ok a → a ∉ pl cs := fun {k s ok a} nk h1 h2 w hm =>
    nk (j.dis k i s _ ok _ a h1 h h2 e1 w (by show a ∈ (cs ++ cs2).map (·.1); rw [List.map_append]; exact List.mem_append_left _ hm))
  refine ⟨⟨j.hp.s0.trans g.s0, g.sh, sB.trans g.sB, fun a o ha nt hb => g.fr a o (sB a o ha) nt (j.hp.fr a o ha nt hb)⟩, by simp [j.len], fun k s1 ov1 g1 g2 => ?_, fun k l s1 s2 o1 o2 b g1 g2 g3 g4 w1 w2 => ?_⟩
  · rcases set_get g1 with ⟨rfl, rfl, _⟩ | ⟨nk, g1⟩
    · rw [e1] at g2; cases g2
      refine ⟨⟨v, rfl, DR.mono g.s0 _ _ rv⟩, fun p hp => ?_, ?_⟩
      · rcases List.mem_append.mp hp with hp | hp
        · obtain ⟨o, q1, q2, q3, q4⟩ := (hc p hp).ex
          exact ⟨o, q1, q2, eN _ q3, q4⟩
        · exact cell (fun hm => n3 p.1 hm p.1 (List.mem_map.mpr ⟨p, hp, rfl⟩) rfl) (f2 p (List.mem_append_right _ hp))
      · rw [List.map_append, List.nodup_append]
        refine ⟨nd, n2, fun x hx y hy => ?_⟩
        rintro rfl
        obtain ⟨p, hp, rfl⟩ := List.mem_map.mp hx
        obtain ⟨q, hq, e⟩ := List.mem_map.mp hy
        obtain ⟨o, q1, q2, q3, q4⟩ := (hc p hp).ex
        obtain ⟨o', q1', _⟩ := (f2 q (List.mem_append_right _ hq)).ex
        rw [ers_out (fun hm => n3 p.1 hm p.1 hy rfl), ← e, q1'] at q3
        cases q3
    · have q := j.sl k s1 ov1 g1 g2
      have nb : ∀ b, Owns s1 ov1 b → b ∉ pl cs := fun b w => oth nk g1 g2 w
      cases s1 with
      | no => trivial
      | sh d => obtain ⟨v, q1, q2⟩ := q; exact ⟨v, q1, DR.mono g.s0 _ _ q2⟩
      | ow c =>
        obtain ⟨b, ob, q1, q2⟩ := q
        obtain ⟨o, r1, r2, r3, r4⟩ := cell (nb b q1) ⟨ob, q2⟩
        exact ⟨b, o, q1, r1, r2, r3, r4⟩
      | ox cs3 d3 =>
        obtain ⟨⟨v, q1, q2⟩, q3, q4⟩ := q
        exact ⟨⟨v, q1, DR.mono g.s0 _ _ q2⟩, fun p hp => cell (nb p.1 (List.mem_map.mpr ⟨p, hp, rfl⟩)) (q3 p hp), q4⟩
  · have new : ∀ {k : Nat} {s : Sl} {ok : Option V}, k ≠ i → ρ[k]? = some s → σ[k]? = some ok → Owns s ok b → b ∉ (cs' ++ cs2).map (·.1) := fun {k s ok} nk h1 h2 w hm => by
      obtain ⟨o, q1, _⟩ := j.own h1 h2 w
      have nb := oth nk h1 h2 w
      rw [List.map_append, List.mem_append] at hm
      rcases hm with hm | hm
      · obtain ⟨p, hp, rfl⟩ := List.mem_map.mp hm
        obtain ⟨_, _, _, q3, _⟩ := (hc p hp).ex
        rw [ers_out nb, q1] at q3; cases q3
      · exact nk (j.dis k i s _ ok _ b h1 h h2 e1 w (by show b ∈ (cs ++ cs2).map (·.1); rw [List.map_append]; exact List.mem_append_right _ hm))
    rcases set_get g1 with ⟨ek, es1, _⟩ | ⟨nk, g1'⟩
    · rcases set_get g2 with ⟨el, es2, _⟩ | ⟨nl, g2'⟩
      · rw [ek, el]
      · subst es1; exact absurd w1 (new nl g2' g4 w2)
    · rcases set_get g2 with ⟨el, es2, _⟩ | ⟨nl, g2'⟩
      · subst es2; exact absurd w2 (new nk g1' g3 w1)
      · exact j.dis k l s1 s2 o1 o2 b g1' g2' g3 g4 w1 w2
/-- what may be lent -/
theorem J.lent (j : J K B0 B σ H0 H ρ) {i : Nat} {cs cs2 : Cs} {d : D} (h : ρ[i]? = some (.ox (cs ++ cs2) d)) : (∀ p ∈ cs, CellR K (ers H (pl cs)) H0 H p.1 p.2) ∧ (pl cs).Nodup := by
  obtain ⟨ov, e1, ⟨v, rfl, rv⟩, f2, f3⟩ := j.get h
  rw [List.map_append, List.nodup_append] at f3
  refine ⟨fun p hp => ?_, f3.1⟩
  obtain ⟨o, q1, q2, q3, q4⟩ := (f2 p (List.mem_append_left _ hp)).ex
  exact ⟨o, q1, q2, ers_in (List.mem_map.mpr ⟨p, hp, rfl⟩), q4⟩
end
def EP (X : Cx) (ρ : En) (e : Expr) (Ψ : D → En → Prop) : Prop := ∀ B0 B σ H0 H (Q : VK), J X.K B0 B σ H0 H ρ → (∀ d ρ' v H0' H', Ψ d ρ' → Same H0 H0' → J X.K B0 B σ H0' H' ρ' → DR X.K H0' d v → Q v H') → RE X e σ H Q
/-- a new thing of its own, with cells -/
def EC (X : Cx) (ρ : En) (e : Expr) (Ψ : Addr → Cs → Prop) : Prop := ∀ B0 B σ H0 H (Q : VK), J X.K B0 B σ H0 H ρ → (∀ a cs H0' H', Ψ a cs → JH H0 H H0' H' → (∀ p ∈ cs, CellR X.K H H0' H' p.1 p.2) → (pl cs).Nodup → Q (.ref a) H') → RE X e σ H Q
section
variable {X : Cx} {ρ : En} {e : Expr} {pos : Pos} {d : D} {Φ : Out → Prop} {Ψ : D → En → Prop}
theorem ep_mono {Ψ' : D → En → Prop} (h : EP X ρ e Ψ) (q : ∀ d ρ', Ψ d ρ' → Ψ' d ρ') : EP X ρ e Ψ' := fun B0 B σ H0 H Q j k => h B0 B σ H0 H Q j fun d ρ' v H0' H' w => k d ρ' v H0' H' (q d ρ' w)
theorem ws_unpackP {tg : Expr} (he : EP X ρ e Ψ) (hg : ∀ d ρ', Ψ d ρ' → ∃ (is : List Nat) (ρ2 : En), DG X is tg d ρ' ρ2 ∧ Φ (.nx ρ2)) (hs : swapsWithSole [tg] e pos.line X.env = pure false := by rfl) (hw : swappedStores [tg] e X.env = pure none := by rfl)
    (h1 : (assignEach [tg] X.env).map (·.2) = [assign tg X.env] := by rfl) : WS X (.Assign [tg] e pos) ρ Φ := fun B0 B σ H0 H Dn j k =>
  ⟨_, ps_asg pe_star pg_star hs hw h1, he B0 B σ H0 H _ j fun d ρ' v H0' H' w s1 j1 r => by
    obtain ⟨is, ρ2, hg', hΦ⟩ := hg d ρ' w
    exact hg' B0 B σ H0' H' v _ j1 r fun σ' j' _ => k _ hΦ σ' H0' H' j'⟩
theorem ws_exprP (he : EP X ρ e Ψ) (hΦ : ∀ d ρ', Ψ d ρ' → Φ (.nx ρ')) (hs : swapsWith e none pos.line X.env = pure false := by rfl) : WS X (.Expr e pos) ρ Φ := fun B0 B σ H0 H Dn j k =>
  ⟨_, ps_expr pe_star hs, he B0 B σ H0 H _ j fun d ρ' v H0' H' w s1 j1 r => k _ (hΦ d ρ' w) σ H0' H' j1⟩
/-- x = a new thing with cells -/
theorem ws_setC (i : Nat) {x : Str} {pos' : Pos} {Ψ : Addr → Cs → Prop} (hN : X.N.Nodup) (he : EC X ρ e Ψ) (hΦ : ∀ a cs, Ψ a cs → Φ (.nx (ρ.set i (.ox cs (.ad a))))) (hi : X.N[i]? = some x := by rfl) (hx : Loc X.env.scope x := by first | exact Or.inl rfl | exact Or.inr rfl)
    (hs : swapsWith e (some (.Name x pos')) pos.line X.env = pure false := by rfl) (hf : X.fn x = true ∨ X.env.scope.names.lookup x = some .local := by first | exact .inl rfl | exact .inr rfl) : WS X (.Assign [.Name x pos'] e pos) ρ Φ := fun B0 B σ H0 H Dn j k =>
  ⟨_, ps_set hN hi hx pe_star hs hf, he B0 B σ H0 H _ j fun a cs H0' H' w g hc nd => by
    refine k _ (hΦ a cs w) _ H0' H' ((j.grow g).setTo (s := .ox cs (.ad a)) (ov := some (.ref a)) ⟨⟨_, rfl, rfl⟩, fun p hp => ?_, nd⟩ fun b w k s' ov' nk h1 h2 w2 => ?_)
    · obtain ⟨o, q1, q2, q3, q4⟩ := (hc p hp).ex
      exact ⟨o, q1, q2, j.hp.sB.free q3, q4⟩
    · have w' : b ∈ pl cs := w
      obtain ⟨p, hp, rfl⟩ := List.mem_map.mp w'
      obtain ⟨_, _, _, q3, _⟩ := (hc p hp).ex
      obtain ⟨o, q1, _⟩ := j.own h1 h2 w2
      rw [q3] at q1; cases q1⟩
/-- return e, with what slot 0 owns -/
theorem ws_retC (i : Nat) {cs : Cs} {d0 : D} (h : ED X ρ e d) (hi : ρ[i]? = some (.ox cs d0)) (hΦ : Φ (.rc d cs)) : WS X (.Return (some e) pos) ρ Φ := fun B0 B σ H0 H Dn j k =>
  ⟨_, ps_ret pe_star, h B0 B σ H0 H _ j fun v H0' H' g r => by
    obtain ⟨ov, e1, _, f2, f3⟩ := (j.grow g).get hi
    exact k _ hΦ v H0' H' (j.hp.trans g) f2 f3 r⟩
theorem ws_retCP (i : Nat) (h : EP X ρ e Ψ) (hΦ : ∀ d ρ', Ψ d ρ' → ∃ cs d0, ρ'[i]? = some (.ox cs d0) ∧ Φ (.rc d cs)) : WS X (.Return (some e) pos) ρ Φ := fun B0 B σ H0 H Dn j k =>
  ⟨_, ps_ret pe_star, h B0 B σ H0 H _ j fun d ρ' v H0' H' w s1 j1 r => by
    obtain ⟨cs, d0, hi, hΦ⟩ := hΦ d ρ' w
    obtain ⟨ov, e1, _, f2, f3⟩ := j1.get hi
    exact k _ hΦ v H0' H' j1.hp f2 f3 r⟩
end
/-- R: the place of the first argument, what is lent, the other arguments, what comes back and the result -/
abbrev RLnt := Addr → Cs → List D → (Cs → D → Prop) → Prop
def spL (K : PySem.W.Frag) (R : RLnt) : Sp := fun vs H Q _ => ∃ H0 a cs ds ws Ψ, vs = .ref a :: ws ∧ Same H0 H ∧ (∀ p ∈ cs, CellR K (ers H (pl cs)) H0 H p.1 p.2) ∧ (pl cs).Nodup ∧ DRs K H0 ds ws ∧ R a cs ds Ψ ∧
  ∀ cs' d v H0' H', Ψ cs' d → JH H0 (ers H (pl cs)) H0' H' → (∀ p ∈ cs', CellR K (ers H (pl cs)) H0' H' p.1 p.2) → (pl cs').Nodup → DR K H0' d v → Q v H'
def enL (N : List Str) (cs : Cs) (a : Addr) (ds : List D) : En := .ox cs (.ad a) :: (ds.map Sl.sh ++ List.replicate (N.length - (ds.length + 1)) Sl.no)
section
variable {P : Program} {w : World} {K : PySem.W.Frag} {mg : Str → Option Value} {base : Heap}
theorem j_startL {N : List Str} {B H0 H : Hp} {a : Addr} {cs : Cs} {ds : List D} {vs : List V} (s : Same H0 H) (sB : Same B H) (hc : ∀ p ∈ cs, CellR K B H0 H p.1 p.2) (nd : (pl cs).Nodup) (r : DRs K H0 ds vs) (hl : ds.length + 1 ≤ N.length) : J K H0 B (L2.start N (.ref a :: vs)) H0 H (enL N cs a ds) := by
  have hlen := DRs.length r
  have kind : ∀ (i : Nat) s, (enL N cs a ds)[i]? = some s → i = 0 ∨ s = .no ∨ ∃ d, s = .sh d := fun i s h => by
    cases i with
    | zero => exact .inl rfl
    | succ i =>
      refine .inr ?_
      unfold enL at h
      rw [List.getElem?_cons_succ] at h
      by_cases hi : i < ds.length
      · rw [List.getElem?_append_left (by simpa using hi), List.getElem?_map, show ds[i]? = some ds[i] by simp [hi]] at h
        cases h; exact .inr ⟨_, rfl⟩
      · rw [List.getElem?_append_right (by simp; omega), List.getElem?_replicate] at h
        split at h
        · cases h; exact .inl rfl
        · cases h
  refine ⟨⟨Same.refl _, s, sB, fun b o e _ h => h⟩, by simp [L2.start, enL, hlen], fun i sl ov h1 h2 => ?_, fun i j s1 s2 o1 o2 b h1 h2 _ _ w1 w2 => ?_⟩
  · cases i with
    | zero =>
      unfold enL at h1
      unfold L2.start at h2
      simp only [List.getElem?_cons_zero, Option.some.injEq, List.map_cons, List.cons_append] at h1 h2
      subst h1; subst h2
      exact ⟨⟨_, rfl, rfl⟩, hc, nd⟩
    | succ i =>
      unfold enL at h1
      unfold L2.start at h2
      simp only [List.getElem?_cons_succ, List.map_cons, List.cons_append] at h1 h2
      by_cases hi : i < ds.length
      · rw [List.getElem?_append_left (by simpa using hi), List.getElem?_map] at h1
        rw [List.getElem?_append_left (by simp; omega), List.getElem?_map] at h2
        obtain ⟨v, e1, e2⟩ := DRs.get r (show ds[i]? = some ds[i] by simp [hi])
        rw [show ds[i]? = some ds[i] by simp [hi]] at h1
        rw [e1] at h2
        cases h1; cases h2
        exact ⟨v, rfl, e2⟩
      · rw [List.getElem?_append_right (by simp; omega), List.getElem?_replicate] at h1
        split at h1
        · cases h1; trivial
        · cases h1
  · rcases kind i s1 h1 with e1 | e1
    · rcases kind j s2 h2 with e2 | e2
      · rw [e1, e2]
      · exact absurd w2 (Owns.none e2 b)
    · exact absurd w1 (Owns.none e1 b)
theorem fn_okL {x qual : Str} {st : Stmt} {f : Addr} {fd : FuncData} {N ps : List Str} {k : Nat} {R : RLnt} (F : Fun K x qual st f fd) (S : FnScope N ps (defScope st)) (hR : ∀ a cs ds Ψ, R a cs ds Ψ → ds.length + 1 = ps.length)
    (h : ∀ a cs ds Ψ, R a cs ds Ψ → ∀ (cdv : Value) (A : Around) (outer : List Env) (s : Shared) (H : Hp) (E : XK), Room k (A.deeper (envOfC qual (defScope st) s.heap.objs.size f cdv)) →
      WSs (bx P w K mg base N qual st f cdv A outer s H E) (defBody st) (enL N cs a ds) (fun o => (∃ d cs', o = .rc d cs' ∧ Ψ cs' d) ∨ (∃ ρ cs' d0, o = .nx ρ ∧ ρ[0]? = some (.ox cs' d0) ∧ Ψ cs' .non))) : FnOk P w K mg base CX0 (k + 1) f fd ps (spL K R) := by
  refine F.ok S (fun vs H Q E hs => ?_) fun cdv A outer s H vs Q E hr hs => ?_
  · obtain ⟨H0, a, cs, ds, ws, Ψ, rfl, s0, hc, nd, r, q, _⟩ := hs
    rw [List.length_cons, ← DRs.length r]; exact hR a cs ds Ψ q
  · obtain ⟨H0, a, cs, ds, ws, Ψ, rfl, s0, hc, nd, r, q, kk⟩ := hs
    have hN : ds.length + 1 ≤ N.length := by
      have h1 := hR a cs ds Ψ q
      have h2 := congrArg List.length S.pre
      rw [List.length_take] at h2
      omega
    obtain ⟨t, h1, h2⟩ := h a cs ds Ψ q cdv A outer s H E hr H0 (ers H (pl cs)) (L2.start N (.ref a :: ws)) H0 H (j_startL s0 ers_sub hc nd r hN) (Dn := { nx := fun _ H' => Q .non H', rt := Q }) fun o ho => by
      rcases ho with ⟨d, cs', rfl, w⟩ | ⟨ρ, cs', d0, rfl, hρ, w⟩
      · intro v G0 G g gc gn gd
        exact kk cs' d v G0 G w g gc gn gd
      · intro σ G0 G j
        obtain ⟨ov, e1, _, f2, f3⟩ := j.get hρ
        exact kk cs' .non .non G0 G w j.hp f2 f3 rfl
    exact ⟨t, h1, h2⟩
/-- a method that is lent its instance -/
structure FnML (P : Program) (w : World) (K : PySem.W.Frag) (mg : Str → Option Value) (base : Heap) (cn m : Str) (k : Nat) (R : RLnt) : Prop where
  ex : ∃ C f fd ps, PySem.W.nsIn K mainGlobals cn = some (some (.ref C)) ∧ Cls K C ∧ Meth K C m f ∧ FnOk P w K mg base CX0 k f fd ps (spL K R) ∧ Binds K fd ps []
end
section
variable {X : Cx} {ρ : En} {o e : Expr} {pos apos : Pos} {cn m : Str} {k : Nat} {R : RLnt} {es : List Expr} {ds fds : List D} {ns : List Str} {d0 : D} {pl' : Sem Bool}
/-- o.m(e, ..), o an instance that slot i owns -/
theorem ep_meth (i : Nat) {a : Addr} {cs cs2 : Cs} {Ψ : Cs → D → Prop} (G : FnML X.prog X.w X.K X.mg X.base cn m k R) (hr : Room k X.A) (hi : ρ[i]? = some (.ox (cs ++ cs2) d0)) (hm : (a, OC.ins cn ns fds) ∈ cs) (ho : ED X ρ o (.ad a)) (ha : AD X ρ (e :: es) ds) (hR : R a cs ds Ψ)
    (hnm : ns.contains m = false := by decide +kernel)
    (hst : starEach (e :: es) X.env = (false, eval e X.env) :: starEach es X.env := by rfl) (hpl : (backTo pos (starEach es X.env)).any (·.1) = false := by rfl)
    (ht : eval (.Call (.Attribute o m apos) (e :: es) [] pos) X.env = (do
      let ov ← eval o X.env
      standAt apos.atName
      let (f, first) ← holding [ov] (getMethod ov m pl')
      callWith pos f first (backTo pos (starEach (e :: es) X.env)) (backToKw pos (keywordEach [] X.env))) := by rfl) :
    EP X ρ (.Call (.Attribute o m apos) (e :: es) [] pos) (fun d ρ' => ∃ cs', Ψ cs' d ∧ ρ' = ρ.set i (.ox (cs' ++ cs2) d0)) := fun B0 B σ H0 H Q j kk => by
  obtain ⟨C, f, fd, ps, hC, hc, hmt, F, hb⟩ := G.ex
  refine RE.of (pe_meth (E := E0) pe_star hc hmt F hr hb .nil pass0 pa_star hst hpl ht) (ho B0 B σ H0 H _ j fun v G0 G g r => ?_)
  cases (show v = .ref a from r)
  have j1 := j.grow g
  obtain ⟨u, h1, _, _, vs, C', dx, rfl, hC', hlen, hvs⟩ := j1.cell hi (List.mem_append_left _ hm)
  rw [hC] at hC'; cases hC'
  refine ⟨a, dx, _, rfl, h1, zip_none hnm, ha B0 B σ G0 G _ j1 fun ws L0 L g2 r2 => ?_⟩
  rw [List.append_nil]
  have j2 := j1.grow g2
  obtain ⟨lc, ln⟩ := j2.lent hi
  exact ⟨L0, a, cs, ds, ws, Ψ, rfl, g2.sh, lc, ln, r2, hR, fun cs' d v M0 M w g3 c3 n3 r3 => kk d _ v M0 M ⟨cs', w, rfl⟩ ((g.s0.trans g2.s0).trans g3.s0) (j2.back hi g3 c3 n3) r3⟩
theorem ep_meth0 (i : Nat) {a : Addr} {cs cs2 : Cs} {Ψ : Cs → D → Prop} (G : FnML X.prog X.w X.K X.mg X.base cn m k R) (hr : Room k X.A) (hi : ρ[i]? = some (.ox (cs ++ cs2) d0)) (hm : (a, OC.ins cn ns fds) ∈ cs) (ho : ED X ρ o (.ad a)) (hR : R a cs [] Ψ)
    (hnm : ns.contains m = false := by decide +kernel)
    (ht : eval (.Call (.Attribute o m apos) [] [] pos) X.env = (do
      let ov ← eval o X.env
      standAt apos.atName
      let (f, first) ← holding [ov] (getMethod ov m pl')
      callWith pos f first (backTo pos (starEach [] X.env)) (backToKw pos (keywordEach [] X.env))) := by rfl) :
    EP X ρ (.Call (.Attribute o m apos) [] [] pos) (fun d ρ' => ∃ cs', Ψ cs' d ∧ ρ' = ρ.set i (.ox (cs' ++ cs2) d0)) := fun B0 B σ H0 H Q j kk => by
  obtain ⟨C, f, fd, ps, hC, hc, hmt, F, hb⟩ := G.ex
  refine RE.of (pe_meth0 (E := E0) pe_star hc hmt F hr hb .nil pass0 ht) (ho B0 B σ H0 H _ j fun v G0 G g r => ?_)
  cases (show v = .ref a from r)
  have j1 := j.grow g
  obtain ⟨u, h1, _, _, vs, C', dx, rfl, hC', hlen, hvs⟩ := j1.cell hi (List.mem_append_left _ hm)
  rw [hC] at hC'; cases hC'
  refine ⟨a, dx, _, rfl, h1, zip_none hnm, ?_⟩
  obtain ⟨lc, ln⟩ := j1.lent hi
  exact ⟨G0, a, cs, [], [], Ψ, rfl, g.sh, lc, ln, rfl, hR, fun cs' d v M0 M w g3 c3 n3 r3 => kk d _ v M0 M ⟨cs', w, rfl⟩ (g.s0.trans g3.s0) (j1.back hi g3 c3 n3) r3⟩
/-- .. all of the slot lent -/
theorem ep_methW (i : Nat) {a : Addr} {cs : Cs} {Ψ : Cs → D → Prop} (G : FnML X.prog X.w X.K X.mg X.base cn m k R) (hr : Room k X.A) (hi : ρ[i]? = some (.ox cs d0)) (hm : (a, OC.ins cn ns fds) ∈ cs) (ho : ED X ρ o (.ad a)) (ha : AD X ρ (e :: es) ds) (hR : R a cs ds Ψ)
    (hnm : ns.contains m = false := by decide +kernel)
    (hst : starEach (e :: es) X.env = (false, eval e X.env) :: starEach es X.env := by rfl) (hpl : (backTo pos (starEach es X.env)).any (·.1) = false := by rfl)
    (ht : eval (.Call (.Attribute o m apos) (e :: es) [] pos) X.env = (do
      let ov ← eval o X.env
      standAt apos.atName
      let (f, first) ← holding [ov] (getMethod ov m pl')
      callWith pos f first (backTo pos (starEach (e :: es) X.env)) (backToKw pos (keywordEach [] X.env))) := by rfl) :
    EP X ρ (.Call (.Attribute o m apos) (e :: es) [] pos) (fun d ρ' => ∃ cs', Ψ cs' d ∧ ρ' = ρ.set i (.ox cs' d0)) :=
  ep_mono (ep_meth i (cs := cs) (cs2 := []) (d0 := d0) G hr (by rw [List.append_nil]; exact hi) hm ho ha hR hnm hst hpl ht) fun d ρ' ⟨cs', w, e⟩ => ⟨cs', w, by rw [e, List.append_nil]⟩
theorem ep_meth0W (i : Nat) {a : Addr} {cs : Cs} {Ψ : Cs → D → Prop} (G : FnML X.prog X.w X.K X.mg X.base cn m k R) (hr : Room k X.A) (hi : ρ[i]? = some (.ox cs d0)) (hm : (a, OC.ins cn ns fds) ∈ cs) (ho : ED X ρ o (.ad a)) (hR : R a cs [] Ψ)
    (hnm : ns.contains m = false := by decide +kernel)
    (ht : eval (.Call (.Attribute o m apos) [] [] pos) X.env = (do
      let ov ← eval o X.env
      standAt apos.atName
      let (f, first) ← holding [ov] (getMethod ov m pl')
      callWith pos f first (backTo pos (starEach [] X.env)) (backToKw pos (keywordEach [] X.env))) := by rfl) :
    EP X ρ (.Call (.Attribute o m apos) [] [] pos) (fun d ρ' => ∃ cs', Ψ cs' d ∧ ρ' = ρ.set i (.ox cs' d0)) :=
  ep_mono (ep_meth0 i (cs := cs) (cs2 := []) (d0 := d0) G hr (by rw [List.append_nil]; exact hi) hm ho hR hnm ht) fun d ρ' ⟨cs', w, e⟩ => ⟨cs', w, by rw [e, List.append_nil]⟩
end
abbrev RIL := Addr → List D → (Cs → Prop) → Prop
def spIL (K : PySem.W.Frag) (cn : Str) (R : RIL) : Sp := fun vs H Q _ => ∃ H0 a C dx ds ws Ψ, vs = .ref a :: ws ∧ PySem.W.nsIn K mainGlobals cn = some (some (.ref C)) ∧ Same H0 H ∧ H a = some (.ins C dx []) ∧ H0 a = none ∧ DRs K H0 ds ws ∧ R a ds Ψ ∧
  ∀ cs' H0' H', Ψ cs' → JH H0 (er H a) H0' H' → (∀ p ∈ cs', CellR K (er H a) H0' H' p.1 p.2) → (pl cs').Nodup → Q .non H'
section
variable {P : Program} {w : World} {K : PySem.W.Frag} {mg : Str → Option Value} {base : Heap}
theorem fn_okIL {x qual : Str} {st : Stmt} {f : Addr} {fd : FuncData} {N ps : List Str} {k : Nat} {cn : Str} {R : RIL} (F : Fun K x qual st f fd) (S : FnScope N ps (defScope st)) (hR : ∀ a ds Ψ, R a ds Ψ → ds.length + 1 = ps.length)
    (h : ∀ a ds Ψ, R a ds Ψ → ∀ (cdv : Value) (A : Around) (outer : List Env) (s : Shared) (H : Hp) (E : XK), Room k (A.deeper (envOfC qual (defScope st) s.heap.objs.size f cdv)) →
      WSs (bx P w K mg base N qual st f cdv A outer s H E) (defBody st) (enI N a cn ds) (fun o => ∃ ρ cs' d0, o = .nx ρ ∧ ρ[0]? = some (.ox cs' d0) ∧ Ψ cs')) : FnOk P w K mg base CX0 (k + 1) f fd ps (spIL K cn R) := by
  refine F.ok S (fun vs H Q E hs => ?_) fun cdv A outer s H vs Q E hr hs => ?_
  · obtain ⟨H0, a, C, dx, ds, ws, Ψ, rfl, hC, s0, ha, h0, r, q, _⟩ := hs
    rw [List.length_cons, ← DRs.length r]; exact hR a ds Ψ q
  · obtain ⟨H0, a, C, dx, ds, ws, Ψ, rfl, hC, s0, ha, h0, r, q, kk⟩ := hs
    have hN : ds.length + 1 ≤ N.length := by
      have h1 := hR a ds Ψ q
      have h2 := congrArg List.length S.pre
      rw [List.length_take] at h2
      omega
    obtain ⟨t, h1, h2⟩ := h a ds Ψ q cdv A outer s H E hr H0 (er H a) (L2.start N (.ref a :: ws)) H0 H (j_startI s0 hC ha h0 r hN) (Dn := { nx := fun _ H' => Q .non H', rt := Q }) fun o ho => by
      obtain ⟨ρ, cs', d0, rfl, hρ, w⟩ := ho
      intro σ G0 G j
      obtain ⟨ov, e1, _, f2, f3⟩ := j.get hρ
      exact kk cs' G0 G w j.hp f2 f3
    exact ⟨t, h1, h2⟩
structure FnIL (P : Program) (w : World) (K : PySem.W.Frag) (mg : Str → Option Value) (base : Heap) (cn : Str) (k : Nat) (R : RIL) : Prop where
  ex : ∃ C f fd ps, PySem.W.nsIn K mainGlobals cn = some (some (.ref C)) ∧ mg cn = some (.ref C) ∧ Mk K C f ∧ FnOk P w K mg base CX0 k f fd ps (spIL K cn R) ∧ Binds K fd ps []
end
section
variable {X : Cx} {ρ : En} {e : Expr} {pos : Pos} {cn f : Str} {ns fs : List Str} {ds : List D} {d : D}
/-- e.f, e an instance that slot s owns -/
theorem ed_fldC (s i : Nat) {a : Addr} {cs : Cs} {d0 : D} (kl : Kl X.K X.mg cn fs) (hρ : ρ[s]? = some (.ox cs d0)) (hm : (a, OC.ins cn ns ds) ∈ cs) (he : ED X ρ e (.ad a)) (hn : ns[i]? = some f := by rfl) (hd : ds[i]? = some d := by rfl) (hu : (ns.take i).contains f = false := by decide +kernel) (hf : f ∈ fs := by decide +kernel)
    (hb : attributeBase e f X.env (eval e X.env) = eval e X.env := by rfl) : ED X ρ (.Attribute e f pos) d := fun B0 B σ H0 H Q j k => by
  refine RE.of (pe_fld pe_star hb) (he B0 B σ H0 H _ j fun v G0 G g r => ?_)
  cases (show v = .ref a from r)
  obtain ⟨o, h1, h2, h3, vs, C, dx, rfl, hC, hlen, hvs⟩ := (j.grow g).cell hρ hm
  obtain ⟨C', hC', hmc, hc, hk, hna⟩ := kl.ex
  rw [hC] at hC'; cases hC'
  obtain ⟨v, hv', rv⟩ := DRs.get hvs hd
  exact ⟨a, C, dx, _, v, rfl, h1, hc.cl, hna f hf, zip_at hn hu hv', k v G0 G g rv⟩
theorem putC_hd {a : Addr} {c c' : OC} {cs : Cs} (nd : (pl ((a, c) :: cs)).Nodup) : putC ((a, c) :: cs) a c' = (a, c') :: cs := by
  unfold putC
  simp only [List.map_cons, if_pos]
  congr 1
  conv => rhs; rw [← List.map_id cs]
  refine List.map_congr_left fun p hp => ?_
  have : p.1 ≠ a := fun z => (List.nodup_cons.mp nd).1 (z ▸ List.mem_map.mpr ⟨p, hp, rfl⟩)
  rw [if_neg this]; rfl
/-- self.f = e, a new field of shared data -/
theorem ws_setFC (s : Nat) {a : Addr} {x : Str} {p pos' : Pos} {value : Expr} {cs : Cs} {Φ : Out → Prop} (kl : Kl X.K X.mg cn fs) (hρ : ρ[s]? = some (.ox ((a, .ins cn ns ds) :: cs) (.ad a))) (hv : ED X ρ value d) (hΦ : Φ (.nx (ρ.set s (.ox ((a, .ins cn (ns ++ [f]) (ds ++ [d])) :: cs) (.ad a)))))
    (hnew : ns.contains f = false := by decide +kernel) (hf : f ∈ fs := by decide +kernel) (hlt : ns.length < 1000 := by decide)
    (hN : X.N[s]? = some x := by rfl) (hvis : Vis X.env.scope x := by first | exact Or.inl rfl | exact Or.inr (Or.inl rfl) | exact Or.inr (Or.inr rfl)) (hdb : (x == ("__debug__" : Str)) = false := by decide) (hcd : (x == ("__classdict__" : Str)) = false := by decide)
    (hs : swapsWith value (some (.Attribute (.Name x p) f pos')) pos.line X.env = pure false := by rfl) : WS X (.Assign [.Attribute (.Name x p) f pos'] value pos) ρ Φ := fun B0 B σ H0 H Dn j k => by
  refine ⟨_, ps_fld (pe_var hN hvis hdb hcd) pe_star hs, hv B0 B σ H0 H _ j fun v G0 G g r => ?_⟩
  have j1 := j.grow g
  obtain ⟨ov, e1, ⟨v1, rfl, rv⟩, hcs, nd⟩ := j1.get hρ
  cases (show v1 = .ref a from rv)
  obtain ⟨o, h1, h2, h3, vs, C, dx, rfl, hC, hlen, hvs⟩ := (hcs _ (List.mem_cons_self ..)).ex
  obtain ⟨C', hC', hm, hc, hk, hna⟩ := kl.ex
  rw [hC] at hC'; cases hC'
  have hl : (ns.zip vs).length < 1000 := by rw [List.length_zip]; omega
  refine ⟨_, e1, a, C, dx, _, rfl, h1, hc.cl, hna f hf, hl, ?_⟩
  rw [putF_new hnew hlen]
  have j2 := j1.put (c' := .ins cn (ns ++ [f]) (ds ++ [d])) (o := .ins C dx ((ns ++ [f]).zip (vs ++ [v]))) hρ (List.mem_cons_self ..) ⟨vs ++ [v], C, dx, rfl, hC, by simp [hlen], DRs.app hvs (DRs.one r)⟩
  rw [putC_hd nd] at j2
  exact k _ hΦ _ _ _ j2
/-- self.f = e, a new field with a new thing -/
theorem ws_setFO (s : Nat) {a : Addr} {x : Str} {p pos' : Pos} {value : Expr} {cs : Cs} {c : OC} {Φ : Out → Prop} (kl : Kl X.K X.mg cn fs) (hρ : ρ[s]? = some (.ox ((a, .ins cn ns ds) :: cs) (.ad a))) (hv : EO X ρ value c) (hΦ : ∀ q, Φ (.nx (ρ.set s (.ox ((a, .ins cn (ns ++ [f]) (ds ++ [.ad q])) :: (cs ++ [(q, c)])) (.ad a)))))
    (hnew : ns.contains f = false := by decide +kernel) (hf : f ∈ fs := by decide +kernel) (hlt : ns.length < 1000 := by decide)
    (hN : X.N[s]? = some x := by rfl) (hvis : Vis X.env.scope x := by first | exact Or.inl rfl | exact Or.inr (Or.inl rfl) | exact Or.inr (Or.inr rfl)) (hdb : (x == ("__debug__" : Str)) = false := by decide) (hcd : (x == ("__classdict__" : Str)) = false := by decide)
    (hs : swapsWith value (some (.Attribute (.Name x p) f pos')) pos.line X.env = pure false := by rfl) : WS X (.Assign [.Attribute (.Name x p) f pos'] value pos) ρ Φ := fun B0 B σ H0 H Dn j k => by
  refine ⟨_, ps_fld (pe_var hN hvis hdb hcd) pe_star hs, hv B0 B σ H0 H _ j fun q oq G0 G g q1 q2 q3 q4 => ?_⟩
  have j1 := j.more g hρ q1 q2 q3 q4
  have hlt' : s < ρ.length := (List.getElem?_eq_some_iff.mp hρ).1
  obtain ⟨ov, e1, ⟨v1, rfl, rv⟩, hcs, nd⟩ := j1.get (i := s) (s := .ox ((a, .ins cn ns ds) :: (cs ++ [(q, c)])) (.ad a)) (by rw [List.getElem?_set_self hlt']; rfl)
  cases (show v1 = .ref a from rv)
  obtain ⟨o, h1, h2, h3, vs, C, dx, rfl, hC, hlen, hvs⟩ := (hcs _ (List.mem_cons_self ..)).ex
  obtain ⟨C', hC', hm, hc, hk, hna⟩ := kl.ex
  rw [hC] at hC'; cases hC'
  have hl : (ns.zip vs).length < 1000 := by rw [List.length_zip]; omega
  refine ⟨_, e1, a, C, dx, _, rfl, h1, hc.cl, hna f hf, hl, ?_⟩
  rw [putF_new hnew hlen]
  have j2 := j1.put (i := s) (cs := (a, .ins cn ns ds) :: (cs ++ [(q, c)])) (d := .ad a) (c' := .ins cn (ns ++ [f]) (ds ++ [.ad q])) (o := .ins C dx ((ns ++ [f]).zip (vs ++ [.ref q]))) (by rw [List.getElem?_set_self hlt']; rfl) (List.mem_cons_self ..) ⟨vs ++ [.ref q], C, dx, rfl, hC, by simp [hlen], DRs.app hvs (DRs.one (d := .ad q) (v := V.ref q) rfl)⟩
  rw [putC_hd nd, List.set_set] at j2
  exact k _ (hΦ q) _ _ _ j2
end
end DL
namespace DL
open PySem PySem.Spec PyProof.Rows L2
/-- what stands at a key -/
def lookK : List Key → List D → Key → Option D
  | k0 :: ks, d :: ds, k => if k0 = k then some d else lookK ks ds k
  | _, _, _ => none
theorem lookK_val {K : PySem.W.Frag} {H : Hp} {k : Key} : ∀ {ks : List Key} {ds : List D} {vs : List V} {d : D}, DRs K H ds vs → lookK ks ds k = some d → ∃ v, valV (ks.zip vs) k = some v ∧ DR K H d v
  | [], ds, vs, d, h, e => by simp [lookK] at e
  | k0 :: ks, [], vs, d, h, e => by simp [lookK] at e
  | k0 :: ks, d0 :: ds, vs, d, h, e => by
    obtain ⟨v, r, rfl, h1, h2⟩ := h
    by_cases q : k0 = k
    · rw [lookK, if_pos q] at e; cases e
      exact ⟨v, by rw [List.zip_cons_cons]; exact valV_pos q, h1⟩
    · rw [lookK, if_neg q] at e
      obtain ⟨u, e1, e2⟩ := lookK_val h2 e
      exact ⟨u, by rw [List.zip_cons_cons, valV_neg (p := (k0, v)) q]; exact e1, e2⟩
def hasK (ks : List Key) (k : Key) : Bool := ks.any fun j => decide (j = k)
theorem hasK_iff {ks : List Key} {k : Key} : hasK ks k = true ↔ k ∈ ks := by
  unfold hasK
  rw [List.any_eq_true]
  exact ⟨fun ⟨j, h1, h2⟩ => of_decide_eq_true h2 ▸ h1, fun h => ⟨k, h, decide_eq_true rfl⟩⟩
theorem lookK_isSome {K : PySem.W.Frag} {H : Hp} {k : Key} : ∀ {ks : List Key} {ds : List D} {vs : List V}, ks.length = vs.length → DRs K H ds vs → (valV (ks.zip vs) k).isSome = hasK ks k
  | [], ds, vs, _, h => by simp [valV, hasK]
  | k0 :: ks, [], vs, l, h => by cases (show vs = [] from h); simp at l
  | k0 :: ks, d0 :: ds, vs, l, h => by
    obtain ⟨v, r, rfl, h1, h2⟩ := h
    rw [List.zip_cons_cons]
    by_cases q : k0 = k
    · rw [valV_pos (p := (k0, v)) q]; simp [q, hasK]
    · rw [valV_neg (p := (k0, v)) q, lookK_isSome (by simpa using l) h2]
      simp [hasK, q]
theorem lookK_get : ∀ {ks : List Key} {ds : List D} {i : Nat} {k : Key} {d : D}, ks.Nodup → ks[i]? = some k → ds[i]? = some d → lookK ks ds k = some d
  | [], ds, i, k, d, _, h, _ => by simp at h
  | k0 :: ks, [], i, k, d, _, _, h => by simp at h
  | k0 :: ks, d0 :: ds, 0, k, d, n, h1, h2 => by
    simp at h1 h2; subst h1; subst h2; simp [lookK]
  | k0 :: ks, d0 :: ds, i + 1, k, d, n, h1, h2 => by
    simp only [List.getElem?_cons_succ] at h1 h2
    have n' := List.nodup_cons.mp n
    have : k0 ≠ k := fun e => n'.1 (e ▸ List.mem_of_getElem? h1)
    rw [lookK, if_neg this]
    exact lookK_get n'.2 h1 h2
section
variable {X : Cx} {ρ : En} {Φ : Out → Prop} {e a b o : Expr} {pos : Pos} {d : D} {rest : List Stmt}
/-- d[k], d a shared dict -/
theorem ed_dix {ks : List Key} {ds : List D} {k0 : Key} (hu : X.A.units + 64 < cLine) (ho : ED X ρ o (.dk ks ds)) (he : ED X ρ e (kD k0)) (h : lookK ks ds k0 = some d) (hs : NoSl e := by exact fun _ _ => rfl) : ED X ρ (.Subscript o e pos) d := fun B0 B σ H0 H Q j kk => by
  refine RE.of (pe_dget (by omega) pe_star pe_star hs) (ho B0 B σ H0 H _ j fun x G0 G g r => ?_)
  refine he B0 B σ G0 G _ (j.grow g) fun y L0 L g2 r2 => ?_
  obtain ⟨p, vs, rfl, h1, h2, h3⟩ := DR.mono g2.s0 _ _ r
  rw [kD_val r2]
  obtain ⟨v, e1, e2⟩ := lookK_val h3 h
  exact ⟨p, v, rfl, .inl ⟨_, k0, Same.rd g2.sh h1, rfl, e1.symm⟩, kk v L0 L (g.trans g2) e2⟩
theorem op_inK (hu : X.A.units + 1 < cLine) : OpR X (compareOp .In) (fun x y H Q => ∃ (p : Addr) (o : Option V), y = .ref p ∧ DGet H p x o ∧ Q (.bl o.isSome) H) := by
  rintro pins s σ H x y v u Q I rx ry ⟨p, o, rfl, g, q⟩
  cases (show u = Value.ref p from ry)
  exact d_in hu I g rx fun s' I' => ⟨.bl o.isSome, H, I', rfl, q⟩
theorem op_notInK (hu : X.A.units + 1 < cLine) : OpR X (compareOp .NotIn) (fun x y H Q => ∃ (p : Addr) (o : Option V), y = .ref p ∧ DGet H p x o ∧ Q (.bl (!o.isSome)) H) := by
  rintro pins s σ H x y v u Q I rx ry ⟨p, o, rfl, g, q⟩
  cases (show u = Value.ref p from ry)
  exact d_notIn hu I g rx fun s' I' => ⟨.bl (!o.isSome), H, I', rfl, q⟩
theorem c2_inDk {ks : List Key} {ds : List D} {k0 : Key} {d0 : D} (hu : X.A.units + 64 < cLine) (h0 : d0 = kD k0) : C2 X .In d0 (.dk ks ds) (.bl (hasK ks k0)) := ⟨_, op_inK (by omega), fun H0 H x y Q s r1 r2 kk => by
  subst h0
  rw [kD_val r1]
  obtain ⟨p, vs, rfl, h1, h2, h3⟩ := r2
  exact ⟨p, valV (ks.zip vs) k0, rfl, .inl ⟨_, k0, Same.rd s h1, rfl, rfl⟩, kk _ H0 H (JH.refl s) (by rw [lookK_isSome h2 h3]; rfl)⟩⟩
theorem c2_notInDk {ks : List Key} {ds : List D} {k0 : Key} {d0 : D} (hu : X.A.units + 64 < cLine) (h0 : d0 = kD k0) : C2 X .NotIn d0 (.dk ks ds) (.bl (!hasK ks k0)) := ⟨_, op_notInK (by omega), fun H0 H x y Q s r1 r2 kk => by
  subst h0
  rw [kD_val r1]
  obtain ⟨p, vs, rfl, h1, h2, h3⟩ := r2
  exact ⟨p, valV (ks.zip vs) k0, rfl, .inl ⟨_, k0, Same.rd s h1, rfl, rfl⟩, kk _ H0 H (JH.refl s) (by rw [lookK_isSome h2 h3]; rfl)⟩⟩
/-- e[k] = v, e a dict at a place, k a new key -/
theorem ws_dputA (i : Nat) {p : Addr} {cs : Cs} {d0 : D} {ks : List Key} {ds : List D} {k0 : Key} {p2 : Pos} (hu : X.A.units + 64 < cLine) (hi : ρ[i]? = some (.ox cs d0)) (hm : (p, OC.dk ks ds) ∈ cs) (ha : ED X ρ a (.ad p)) (hb : ED X ρ b (kD k0)) (he : ED X ρ e d) (hn : k0 ∉ ks) (hl : ks.length < sizeLine)
    (hΦ : Φ (.nx (ρ.set i (.ox (putC cs p (.dk (ks ++ [k0]) (ds ++ [d]))) d0)))) (hs : swapsWith e (some (.Subscript a b p2)) pos.line X.env = pure false := by rfl) : WS X (.Assign [.Subscript a b p2] e pos) ρ Φ := fun B0 B σ H0 H Dn j kk => by
  refine ⟨_, ps_dput (by omega) pe_star pe_star pe_star hs, he B0 B σ H0 H _ j fun v G0 G g1 r1 => ha B0 B σ G0 G _ (j.grow g1) fun x L0 L g2 r2 => hb B0 B σ L0 L _ ((j.grow g1).grow g2) fun y M0 M g3 r3 => ?_⟩
  cases (show x = .ref p from r2)
  rw [kD_val r3]
  have j1 := ((j.grow g1).grow g2).grow g3
  obtain ⟨o, h1, h2, h3, vs, rfl, hlen, rr⟩ := j1.cell hi hm
  refine ⟨p, _, rfl, DPut.k h1 (by rw [List.length_zip, ← hlen]; omega), ?_⟩
  rw [putK_zip hlen hn]
  exact kk _ hΦ _ M0 _ (j1.put hi hm ⟨_, rfl, by simp [hlen], DRs.app rr (DRs.one (DR.mono (g2.trans g3).s0 _ _ r1))⟩)
/-- x[k] = v, x a dict of the def's own, k a new key -/
theorem ws_dputO (i : Nat) {x : Str} {ks : List Key} {ds : List D} {k0 : Key} {p1 p2 : Pos} (hu : X.A.units + 64 < cLine) (hi : ρ[i]? = some (.ow (.dk ks ds))) (hb : ED X ρ b (kD k0)) (he : ED X ρ e d) (hn : k0 ∉ ks) (hl : ks.length < sizeLine)
    (hΦ : Φ (.nx (ρ.set i (.ow (.dk (ks ++ [k0]) (ds ++ [d])))))) (hs : swapsWith e (some (.Subscript (.Name x p1) b p2)) pos.line X.env = pure false := by rfl)
    (hN : X.N[i]? = some x := by rfl) (hv : Vis X.env.scope x := by first | exact Or.inl rfl | exact Or.inr (Or.inl rfl) | exact Or.inr (Or.inr rfl)) (hd : (x == ("__debug__" : Str)) = false := by decide) (hcd : (x == ("__classdict__" : Str)) = false := by decide) : WS X (.Assign [.Subscript (.Name x p1) b p2] e pos) ρ Φ := fun B0 B σ H0 H Dn j kk => by
  refine ⟨_, ps_dput (by omega) (pe_var hN hv hd hcd) pe_star pe_star hs, he B0 B σ H0 H _ j fun v G0 G g1 r1 => ?_⟩
  obtain ⟨ov, e0, p, o, rfl, _⟩ := (j.grow g1).get hi
  refine ⟨_, e0, hb B0 B σ G0 G _ (j.grow g1) fun y M0 M g3 r3 => ?_⟩
  rw [kD_val r3]
  have j1 := (j.grow g1).grow g3
  obtain ⟨ov', e0', p', o', e3, h1, h2, h3, vs, rfl, hlen, rr⟩ := j1.get hi
  rw [e0] at e0'; cases e0'; cases e3
  refine ⟨p, _, rfl, DPut.k h1 (by rw [List.length_zip, ← hlen]; omega), ?_⟩
  rw [putK_zip hlen hn]
  exact kk _ hΦ _ M0 _ (j1.write hi e0 ⟨_, rfl, by simp [hlen], DRs.app rr (DRs.one (DR.mono g3.s0 _ _ r1))⟩)
end
theorem putC_set {cs : Cs} {i : Nat} {p : Addr} {c c' : OC} (nd : (pl cs).Nodup) (h : cs[i]? = some (p, c)) : putC cs p c' = cs.set i (p, c') := by
  unfold putC
  refine List.ext_getElem? fun k => ?_
  rw [List.getElem?_map, List.getElem?_set]
  by_cases e : i = k
  · subst e
    rw [if_pos rfl, if_pos (List.getElem?_eq_some_iff.mp h).1, h]
    simp
  · rw [if_neg e]
    cases hk : cs[k]? with
    | none => rfl
    | some y =>
      have : y.1 ≠ p := fun z => e (by
        have h1 : (pl cs)[i]? = some p := by rw [List.getElem?_map, h]; rfl
        have h2 : (pl cs)[k]? = some p := by rw [List.getElem?_map, hk, ← z]; rfl
        exact (List.getElem?_inj (List.getElem?_eq_some_iff.mp h1).1 nd).mp (h1.trans h2.symm))
      show some (if y.1 = p then (p, c') else y) = some y
      rw [if_neg this]
section
variable {X : Cx} {ρ : En} {Φ : Out → Prop} {e a b : Expr} {pos : Pos} {d : D}
/-- the same, by the cell's number -/
theorem ws_dputI (i m : Nat) {p : Addr} {cs : Cs} {d0 : D} {ks : List Key} {ds : List D} {k0 : Key} {p2 : Pos} (hu : X.A.units + 64 < cLine) (hi : ρ[i]? = some (.ox cs d0)) (hm : cs[m]? = some (p, OC.dk ks ds)) (ha : ED X ρ a (.ad p)) (hb : ED X ρ b (kD k0)) (he : ED X ρ e d) (hn : k0 ∉ ks) (hl : ks.length < sizeLine)
    (hΦ : Φ (.nx (ρ.set i (.ox (cs.set m (p, .dk (ks ++ [k0]) (ds ++ [d]))) d0)))) (hs : swapsWith e (some (.Subscript a b p2)) pos.line X.env = pure false := by rfl) : WS X (.Assign [.Subscript a b p2] e pos) ρ Φ := fun B0 B σ H0 H Dn j kk => by
  obtain ⟨_, _, _, _, nd⟩ := j.get hi
  exact ws_dputA i hu hi (List.mem_iff_getElem?.mpr ⟨m, hm⟩) ha hb he hn hl (by rw [putC_set nd hm]; exact hΦ) hs B0 B σ H0 H Dn j kk
theorem ws_appendI (i m : Nat) {p : Addr} {cs : Cs} {d0 : D} {ds : List D} {p2 p3 : Pos} (hi : ρ[i]? = some (.ox cs d0)) (hm : cs[m]? = some (p, OC.lst ds)) (ha : ED X ρ a (.ad p)) (he : ED X ρ e d) (hl : ds.length < sizeLine) (hΦ : Φ (.nx (ρ.set i (.ox (cs.set m (p, .lst (ds ++ [d]))) d0))))
    (hpe : ∀ {to : TE} {ta : TA}, PE X a to → PA X [e] ta → PS X (.Expr (.Call (.Attribute a "append" p2) [e] [] p3) pos) (tDrop (tBM X.K "list" rAppend to ta))) (hs : starEach [e] X.env = (false, eval e X.env) :: starEach [] X.env := by rfl) :
    WS X (.Expr (.Call (.Attribute a "append" p2) [e] [] p3) pos) ρ Φ := fun B0 B σ H0 H Dn j kk => by
  obtain ⟨_, _, _, _, nd⟩ := j.get hi
  exact ws_appendA i hi (List.mem_iff_getElem?.mpr ⟨m, hm⟩) ha he hl (by rw [putC_set nd hm]; exact hΦ) hpe hs B0 B σ H0 H Dn j kk
end
/-- data that stands nowhere -/
def fltD : D → Bool
  | .non | .bl _ | .int _ | .str _ | .ad _ | .ty _ => true
  | _ => false
theorem DR.flat {K : PySem.W.Frag} {H H' : Hp} {d : D} {v : V} (f : fltD d = true) (h : DR K H d v) : DR K H' d v := by
  cases d <;> first | exact h | cases f
section
variable {K : PySem.W.Frag} {B0 B H : Hp} {σ : L2.St} {i : Nat} {d : D}
theorem shareAllX : ∀ {cs : Cs} {H0 : Hp} {ρ : En}, J K B0 B σ H0 H ρ → ρ[i]? = some (.ox cs d) → ∃ H0', J K B0 B σ H0' H (ρ.set i (.sh d)) ∧ Same H0 H0' ∧ (∀ p ∈ cs, DR K H0' p.2.d (.ref p.1)) ∧ (∀ b, b ∉ pl cs → H0' b = H0 b) ∧ ∀ b ∈ pl cs, H0 b = none
  | [], H0, ρ, j, h => by
    obtain ⟨ov, e1, h1, h2, h3⟩ := j.get h
    exact ⟨H0, j.setSl (s := .sh d) e1 h1 (fun a w => w.elim), Same.refl _, fun p hp => by simp at hp, fun _ _ => rfl, fun b hb => by simp at hb⟩
  | (a, c) :: cs, H0, ρ, j, h => by
    obtain ⟨ov, e1, ⟨v, h1, h1'⟩, h2, h3⟩ := j.get h
    obtain ⟨o, f1, f2, f3, f4⟩ := j.cell h (List.mem_cons_self ..)
    have nd := List.nodup_cons.mp h3
    have s0 : Same H0 (upd H0 a o) := fun b u e => upd_keep e (fun z => by subst z; rw [f2] at e; cases e)
    obtain ⟨j1, s1⟩ := j.shareAt (s' := .ox cs d) (c := c) h e1 (List.mem_cons_self ..) f1 f4 (fun b w => ⟨List.mem_cons_of_mem _ w, fun z => nd.1 (z ▸ w)⟩) fun r => ⟨⟨v, h1, DR.mono s0 _ _ h1'⟩, fun p hp => by
      obtain ⟨ob, g2, g3, g4, g5⟩ := (h2 p (List.mem_cons_of_mem _ hp)).ex
      exact ⟨ob, g2, by rw [upd_ne (fun z => nd.1 (by rw [← z]; exact List.mem_map.mpr ⟨p, hp, rfl⟩))]; exact g3, g4, g5.mono s0⟩, nd.2⟩
    obtain ⟨H1, j3, s3, r3, n3, z3⟩ := shareAllX (cs := cs) j1 (by rw [List.getElem?_set_self (List.getElem?_eq_some_iff.mp h).1])
    rw [List.set_set] at j3
    refine ⟨H1, j3, s1.trans s3, fun p hp => ?_, fun b hb => ?_, fun b hb => ?_⟩
    · rcases List.mem_cons.mp hp with rfl | hp
      · exact DR.mono s3 _ _ (OCR.dr f2 f4)
      · exact r3 p hp
    · have hb' : b ≠ a ∧ b ∉ pl cs := by simpa [pl] using hb
      rw [n3 b hb'.2, upd_ne hb'.1]
    · have hb' : b = a ∨ b ∈ pl cs := by simpa [pl] using hb
      rcases hb' with rfl | hb'
      · exact f2
      · have q := z3 b hb'
        by_cases e : b = a
        · subst e; exact f2
        · rwa [upd_ne e] at q
/-- what was shown is a slot's own again -/
theorem JH.unshow {H0 H1 H G0 G : Hp} {as : List Addr} (s : Same H0 H1) (n : ∀ b, b ∉ as → H1 b = H0 b) (z : ∀ b ∈ as, H0 b = none) (g : JH H1 H G0 G) : JH H0 H (ers G0 as) G :=
  ⟨fun b u e => by rw [ers_out fun hb => by rw [z b hb] at e; cases e]; exact g.s0 b u (s b u e), ers_sub.trans g.sh, g.sB, fun a o h nt e => by
    by_cases ha : a ∈ as
    · exact ers_in ha
    · rw [ers_out ha]; exact g.fr a o h nt (by rw [n a ha]; exact e)⟩
end
section
variable {X : Cx} {ρ : En} {e : Expr} {d d' d0 : D} {cs : Cs}
/-- the cells of slot i are shown while e is asked, which gives what stands nowhere -/
theorem ed_show (i : Nat) (d' : D) (hi : ρ[i]? = some (.ox cs d0)) (hd : ∀ (K : PySem.W.Frag) (H : Hp) v, (∀ p ∈ cs, DR K H p.2.d (.ref p.1)) → DR K H d0 v → DR K H d' v) (h : ED X (ρ.set i (.sh d')) e d) (hf : fltD d = true := by rfl) : ED X ρ e d := fun B0 B σ H0 H Q j kk => by
  obtain ⟨H1, j1, s1, r1, n1, z1⟩ := shareAllX j hi
  have hl : i < σ.length := by rw [j.len]; exact (List.getElem?_eq_some_iff.mp hi).1
  obtain ⟨ov, e1, v, e2, r2⟩ := j1.get (i := i) (s := .sh d0) (by rw [List.getElem?_set_self (by rw [← j.len]; exact hl)])
  have j2 := j1.setSl (i := i) (s := .sh d') e1 ⟨v, e2, hd _ _ v r1 r2⟩ fun a w => w.elim
  rw [List.set_set] at j2
  exact h B0 B σ H1 H Q j2 fun v G0 G g r => kk v (ers G0 (pl cs)) G (g.unshow s1 n1 z1) (DR.flat hf r)
theorem td_show (i : Nat) (d' : D) {k : Bool} (hi : ρ[i]? = some (.ox cs d0)) (hd : ∀ (K : PySem.W.Frag) (H : Hp) v, (∀ p ∈ cs, DR K H p.2.d (.ref p.1)) → DR K H d0 v → DR K H d' v) (h : TD X (ρ.set i (.sh d')) e k) : TD X ρ e k := fun B0 B σ H0 H Q j kk => by
  obtain ⟨H1, j1, s1, r1, n1, z1⟩ := shareAllX j hi
  have hl : i < σ.length := by rw [j.len]; exact (List.getElem?_eq_some_iff.mp hi).1
  obtain ⟨ov, e1, v, e2, r2⟩ := j1.get (i := i) (s := .sh d0) (by rw [List.getElem?_set_self (by rw [← j.len]; exact hl)])
  have j2 := j1.setSl (i := i) (s := .sh d') e1 ⟨v, e2, hd _ _ v r1 r2⟩ fun a w => w.elim
  rw [List.set_set] at j2
  exact h B0 B σ H1 H Q j2 fun G0 G g => kk (ers G0 (pl cs)) G (g.unshow s1 n1 z1)
end
end DL
namespace DL
open PySem PySem.Spec L2
structure Gr (xs ys : List Int) (R : List Row) : Prop where
  y : ∀ p ∈ R, p.1 ∈ ys ∧ p.2.1 ∈ ys
  x : ∀ p ∈ R, ∀ c ∈ p.2.2, c ∈ xs
theorem sub_len {l xs : List Int} (h : Asc l) (hs : ∀ c ∈ l, c ∈ xs) : l.length ≤ xs.length := by
  induction l generalizing xs with
  | nil => simp
  | cons c l ih =>
    have hp := List.pairwise_cons.mp h
    have := ih (xs := xs.erase c) hp.2 fun d hd => by
      have h1 := hs d (List.mem_cons_of_mem _ hd)
      have h2 := hp.1 d hd
      exact (List.mem_erase_of_ne (by omega)).mpr h1
    have hc := hs c List.mem_cons_self
    rw [List.length_erase_of_mem hc] at this
    have := List.length_pos_of_mem hc
    rw [List.length_cons]; omega
theorem Gr.edges {xs ys : List Int} {R : List Row} (g : Gr xs ys R) (h : ROk R) : ∀ p ∈ R, p.2.2.length ≤ xs.length := fun p hp => sub_len (h.ed p hp).asc (g.x p hp)
theorem Gr.row {xs ys : List Int} {R : List Row} (g : Gr xs ys R) (y : Int) : ∀ c ∈ rowAt R y, c ∈ xs := by
  rcases segVal_mem (e := ([] : List Int)) (l := R) (y := y) with e | ⟨p, h1, _, _, e⟩
  · unfold rowAt; rw [e]; simp
  · unfold rowAt; rw [← e]; exact g.x p h1
/-- rows that are fit: their form, and not too many -/
structure Fit (R : List Row) : Prop where
  ok : ROk R
  rows : R.length ≤ 1000
  edges : ∀ p ∈ R, p.2.2.length ≤ 1000
theorem Fit.row {R : List Row} (h : Fit R) (y : Int) : (rowAt R y).length ≤ 1000 := by
  rcases segVal_mem (e := ([] : List Int)) (l := R) (y := y) with e | ⟨p, h1, _, _, e⟩
  · unfold rowAt; rw [e]; simp
  · unfold rowAt; rw [← e]; exact h.edges p h1
theorem cutD_len (xs : List D) (lo hi : Option Int) : (cutD xs lo hi).length ≤ xs.length := by
  unfold cutD
  rw [List.length_take, List.length_drop]
  omega
end DL
namespace DL
open PySem PySem.Spec L2
def VB (bs : List Bx) : Prop := ∀ b ∈ bs, b.a < b.c ∧ b.b < b.d
def SB (b : Bx) : Prop := b.a < b.c ∧ b.b < b.d ∧ -24 ≤ b.a ∧ b.c ≤ 24 ∧ -24 ≤ b.b ∧ b.d ≤ 24
end DL
namespace DL
open PySem PySem.Spec L2
theorem cut_take (l : List D) {k : Int} (h : 0 ≤ k) : cutD l none (some k) = l.take k.toNat := by
  unfold cutD
  have h1 : HT.sIx l.length 0 none = 0 := rfl
  have h2 : HT.sIx l.length l.length (some k) = min k.toNat l.length := by
    unfold HT.sIx
    simp only
    split <;> omega
  rw [h1, h2]
  rw [List.drop_zero, Nat.sub_zero]
  rcases Nat.le_total k.toNat l.length with q | q
  · rw [Nat.min_eq_left q]
  · rw [Nat.min_eq_right q, List.take_of_length_le q, List.take_of_length_le (Nat.le_refl _)]
end DL
namespace DL
open PySem PySem.Spec L2
def bx_0 : Bx := ⟨0, 0, 0, 0⟩
theorem getD_memB {bs : List Bx} {k : Nat} (h : k < bs.length) : bs.getD k bx_0 ∈ bs := by
  rw [List.getD_eq_getElem?_getD, List.getElem?_eq_getElem h]; exact List.getElem_mem h
end DL
namespace DL
open PySem PySem.Spec PyProof.Rows L2
open PySem.W (AllAlike Sortable dataLe alike)
def loB (c : Nat) : Bool := decide (97 ≤ c) && decide (c ≤ 122)
def chB (c : Nat) : Bool := loB c || (decide (48 ≤ c) && decide (c ≤ 57))
def nameB (x : Str) : Bool := (decide (1 ≤ x.length) && decide (x.length ≤ 12)) && (loB (x.cps.toList.getD 0 0) && x.cps.toList.all chB)
structure Dev where
  k : Str
  g : Int
  a : Int
  b : Int
  w : Int
  l : Int
deriving DecidableEq
def Dev.e (v : Dev) : D := .tup [.str v.k, .int v.g, .int v.a, .int v.b, .int v.w, .int v.l]
abbrev Nm := Int × Str
structure DevOk (n : Int) (v : Dev) : Prop where
  k : v.k = ("n" : Str) ∨ v.k = ("p" : Str)
  g : 0 ≤ v.g ∧ v.g < n
  e : 0 ≤ v.a ∧ v.a ≤ v.b ∧ v.b < n
  w : 1 ≤ v.w
  l : 1 ≤ v.l
structure CirOk (n : Int) (N : List Nm) (V : List Dev) : Prop where
  nn : 0 ≤ n ∧ n ≤ 200
  nm : ∀ q ∈ N, (0 ≤ q.1 ∧ q.1 < n) ∧ nameB q.2 = true
  d1 : (N.map (·.1)).Nodup
  d2 : (N.map (·.2)).Nodup
  nl : N.length ≤ 1000
  vl : V.length ≤ 200
  dv : ∀ v ∈ V, DevOk n v
theorem bc_lenSeq {X : Cx} {d : D} {ds : List D} (h : SeqD d ds) : BC X (.builtin "len") [d] (.int ds.length) := by
  cases h with
  | lst => exact bc_lenL
  | tup => exact bc_lenT
theorem bc_tupSeq {X : Cx} {d : D} {ds : List D} (h : SeqD d ds) : BC X (.type "tuple") [d] (.tup ds) := by
  cases h with
  | lst => exact bc_tupL
  | tup => exact bc_tupT
theorem nameB_len {x : Str} (h : nameB x = true) : x.length ≤ 12 := by
  unfold nameB at h
  simp only [Bool.and_eq_true, decide_eq_true_eq] at h
  exact h.1.2
end DL
namespace DL
open PySem PySem.Spec PyProof.Rows L2
section
variable {Jt : It} {n : Nat} {G : Hp → Prop} {Y : Nat → Hp → V → Hp → Prop}
theorem dc_it (w : Walk Jt n G Y) {g : TG} {tt : TT} {tk tv : TE} {vs : List Nat} {σ : L2.St} {H1 : Hp} {p : Addr} {Qd : Hp → Prop} (Pv : Nat → Hp → Prop) (h0 : Pv 0 (upd H1 p (.dK []))) (hG : ∀ i H, i ≤ n → Pv i H → G H)
    (hs : ∀ i x H H', i < n → Pv i H → Y i H x H' → g x (wipe σ vs) H' fun σ2 H2 => wipe σ2 vs = wipe σ vs ∧ tt σ2 H2 fun b H3 =>
      if b = true then tk σ2 H3 fun y H4 => tv σ2 H4 fun z H5 => ∃ kvs k, y = kV k ∧ H5 p = some (.dK kvs) ∧ kvs.length < sizeLine ∧ Pv (i + 1) (upd H5 p (.dK (putK kvs k z))) else Pv (i + 1) H3) (hd : ∀ H, Pv n H → Qd H) :
    ∃ W : Nat → Nat → Hp → Prop, (∃ m, W 0 m (upd H1 p (.dK []))) ∧ ∀ i m H, W i m H →
      (Jt.stop i H ∧ Qd H) ∨ (Jt.go i H ∧ ∃ Nx : Hp → Prop, (∀ H', Nx H' → ∃ m', m' < m ∧ W (i + 1) m' H') ∧ ∀ x H', Jt.yld i H x H' → g x (wipe σ vs) H' fun σ2 H2 => wipe σ2 vs = wipe σ vs ∧ tt σ2 H2 fun b H3 =>
        if b = true then tk σ2 H3 fun y H4 => tv σ2 H4 fun z H5 => ∃ kvs k, y = kV k ∧ H5 p = some (.dK kvs) ∧ kvs.length < sizeLine ∧ Nx (upd H5 p (.dK (putK kvs k z))) else Nx H3) := by
  refine ⟨fun i m H => i + m = n ∧ Pv i H, ⟨n, by omega, h0⟩, fun i m H ⟨e, q⟩ => ?_⟩
  have gq := hG i H (by omega) q
  cases m with
  | zero =>
    obtain rfl : i = n := by omega
    exact .inl ⟨w.stops H gq, hd H q⟩
  | succ m => exact .inr ⟨w.goes i H (by omega) gq, Pv (i + 1), fun H' q' => ⟨m, by omega, by omega, q'⟩, fun x H' y => hs i x H H' (by omega) q (w.yields i H x H' (by omega) gq y)⟩
end
end DL
namespace DL
open PySem PySem.Spec PyProof.Rows L2
abbrev TRow := Int × Bx
def rwE (r : TRow) : D := .tup [.int r.1, r.2.e]
inductive Tr where
  | leaf (rs : List TRow)
  | node (h : Bx) (l r : Tr)
def trF : Tr → List D
  | .leaf rs => [.tup (rs.map rwE), .non, .tup []]
  | .node h l r => [.tup [], h.e, .tup [.obj "Tree" ["_rows", "_hull", "_parts"] (trF l), .obj "Tree" ["_rows", "_hull", "_parts"] (trF r)]]
abbrev trD (t : Tr) : D := .obj "Tree" ["_rows", "_hull", "_parts"] (trF t)
def Tr.dep : Tr → Nat
  | .leaf _ => 0
  | .node _ l r => 1 + max l.dep r.dep
/-- all rows -/
def Tr.all : Tr → List TRow
  | .leaf rs => rs
  | .node _ l r => l.all ++ r.all
def mX (r : TRow) : D := .int (r.2.a + r.2.c)
def mY (r : TRow) : D := .int (r.2.b + r.2.d)
theorem mX_ok {A : Around} {rs : List TRow} (hu : A.units + 64 < cLine) : KeyOk A mX rs := by
  refine ⟨fun q _ => rfl, fun d hd d' hd' => ?_, .inr fun d hd => ?_, fun q _ => ?_⟩
  · obtain ⟨q, _, rfl⟩ := List.mem_map.mp hd
    obtain ⟨q', _, rfl⟩ := List.mem_map.mp hd'
    rfl
  · obtain ⟨q, _, rfl⟩ := List.mem_map.mp hd
    exact ⟨fun z => (by cases z), fun xs z => (by cases z)⟩
  · have : (mX q).py.depth ≤ 3 := by simp [mX, D.py, PyData.depth]
    omega
theorem mY_ok {A : Around} {rs : List TRow} (hu : A.units + 64 < cLine) : KeyOk A mY rs := by
  refine ⟨fun q _ => rfl, fun d hd d' hd' => ?_, .inr fun d hd => ?_, fun q _ => ?_⟩
  · obtain ⟨q, _, rfl⟩ := List.mem_map.mp hd
    obtain ⟨q', _, rfl⟩ := List.mem_map.mp hd'
    rfl
  · obtain ⟨q, _, rfl⟩ := List.mem_map.mp hd
    exact ⟨fun z => (by cases z), fun xs z => (by cases z)⟩
  · have : (mY q).py.depth ≤ 3 := by simp [mY, D.py, PyData.depth]
    omega
noncomputable def ordR (h : Bx) (rs : List TRow) : List TRow := if h.d - h.b ≤ h.c - h.a then srtK mX rs else srtK mY rs
theorem ordR_perm (h : Bx) (rs : List TRow) : (ordR h rs).Perm rs := by
  unfold ordR
  split
  · exact srtK_perm _ _
  · exact srtK_perm _ _
open Classical in
noncomputable def hullR (rs : List TRow) : Bx := if h : ∃ b : Bx, IsHull (rs.map (·.2)) b.a b.b b.c b.d then Classical.choose h else ⟨0, 0, 0, 0⟩
theorem hullR_ok {rs : List TRow} (hn : rs ≠ []) : IsHull (rs.map (·.2)) (hullR rs).a (hullR rs).b (hullR rs).c (hullR rs).d := by
  have h : ∃ b : Bx, IsHull (rs.map (·.2)) b.a b.b b.c b.d := by
    obtain ⟨x0, y0, x1, y1, h⟩ := hull_ex (bs := rs.map (·.2)) (by simpa using hn)
    exact ⟨⟨x0, y0, x1, y1⟩, h⟩
  unfold hullR
  rw [dif_pos h]
  exact Classical.choose_spec h
noncomputable def build : Nat → List TRow → Tr
  | 0, rs => .leaf rs
  | k + 1, rs => if rs.length ≤ 8 then .leaf rs else .node (hullR rs) (build k ((ordR (hullR rs) rs).take (rs.length / 2))) (build k ((ordR (hullR rs) rs).drop (rs.length / 2)))
theorem build_perm : ∀ (k : Nat) (rs : List TRow), (build k rs).all.Perm rs
  | 0, rs => List.Perm.refl _
  | k + 1, rs => by
    unfold build
    split
    · exact List.Perm.refl _
    · show ((build k _).all ++ (build k _).all).Perm rs
      refine ((build_perm k _).append (build_perm k _)).trans ?_
      rw [List.take_append_drop]
      exact ordR_perm _ _
def depN : Nat → Nat → Nat
  | 0, _ => 0
  | k + 1, n => if n ≤ 8 then 0 else 1 + max (depN k (n / 2)) (depN k (n - n / 2))
theorem build_dep : ∀ (k : Nat) (rs : List TRow), (build k rs).dep = depN k rs.length
  | 0, rs => rfl
  | k + 1, rs => by
    unfold build depN
    split
    · rfl
    · show 1 + max (build k _).dep (build k _).dep = _
      have hl := (ordR_perm (hullR rs) rs).length_eq
      rw [build_dep k, build_dep k, List.length_take, List.length_drop, hl, Nat.min_eq_left (Nat.div_le_self _ _)]
def hitB (b w : Bx) : Bool := decide (max b.a w.a < min b.c w.c) && decide (max b.b w.b < min b.d w.d)
noncomputable def fnd (w : Bx) : Tr → List Int
  | .leaf rs => srtI ((rs.filter fun r => hitB r.2 w).map (·.1))
  | .node h l r => if hitB h w = true then srtI (fnd w l ++ fnd w r) else []
/-- the hull of a node holds all below it -/
def Tr.ok : Tr → Prop
  | .leaf _ => True
  | .node h l r => (∀ q ∈ l.all ++ r.all, h.a ≤ q.2.a ∧ h.b ≤ q.2.b ∧ q.2.c ≤ h.c ∧ q.2.d ≤ h.d) ∧ l.ok ∧ r.ok
theorem build_ok : ∀ (k : Nat) (rs : List TRow), (build k rs).ok
  | 0, rs => True.intro
  | k + 1, rs => by
    unfold build
    split
    · exact True.intro
    · rename_i hl
      have hne : rs ≠ [] := fun e => by subst e; simp at hl
      have hh := hullR_ok hne
      refine ⟨fun q hq => ?_, build_ok k _, build_ok k _⟩
      have hq' : q ∈ rs := by
        have p := (build_perm k ((ordR (hullR rs) rs).take (rs.length / 2))).append (build_perm k ((ordR (hullR rs) rs).drop (rs.length / 2)))
        rw [List.take_append_drop] at p
        exact (p.trans (ordR_perm _ _)).mem_iff.mp hq
      have m : ∀ (f : Bx → Int), f q.2 ∈ (rs.map (·.2)).map f := fun f => List.mem_map.mpr ⟨q.2, List.mem_map.mpr ⟨q, hq', rfl⟩, rfl⟩
      exact ⟨hh.l0 _ (m Bx.a), hh.l1 _ (m Bx.b), hh.l2 _ (m Bx.c), hh.l3 _ (m Bx.d)⟩
theorem fnd_perm (w : Bx) : ∀ t : Tr, t.ok → (fnd w t).Perm ((t.all.filter fun r => hitB r.2 w).map (·.1))
  | .leaf rs, _ => srtI_perm _
  | .node h l r, ⟨h1, h2, h3⟩ => by
    unfold fnd
    split
    · refine (srtI_perm _).trans ?_
      show ((fnd w l) ++ (fnd w r)).Perm (((l.all ++ r.all).filter _).map _)
      rw [List.filter_append, List.map_append]
      exact (fnd_perm w l h2).append (fnd_perm w r h3)
    · rename_i hn
      have : ((l.all ++ r.all).filter fun r => hitB r.2 w) = [] := by
        refine List.filter_eq_nil_iff.mpr fun q hq hit => hn ?_
        obtain ⟨a1, a2, a3, a4⟩ := h1 q hq
        unfold hitB at hit ⊢
        simp only [Bool.and_eq_true, decide_eq_true_eq] at hit ⊢
        omega
      show ([] : List Int).Perm (((l.all ++ r.all).filter fun r => hitB r.2 w).map (·.1))
      rw [this]; exact List.Perm.refl _
theorem fnd_srt (w : Bx) : ∀ t : Tr, (fnd w t).Pairwise (· ≤ ·)
  | .leaf rs => srtI_srt _
  | .node h l r => by
    unfold fnd
    split
    · exact srtI_srt _
    · exact List.Pairwise.nil
theorem fnd_eq {w : Bx} {t : Tr} (ok : t.ok) : fnd w t = srtI ((t.all.filter fun r => hitB r.2 w).map (·.1)) := srtI_eq (fnd_perm w t ok) (fnd_srt w t)
theorem fnd_build (w : Bx) (k : Nat) (rs : List TRow) : fnd w (build k rs) = srtI ((rs.filter fun r => hitB r.2 w).map (·.1)) := by
  rw [fnd_eq (build_ok k rs)]
  exact srtI_eq ((srtI_perm _).trans (((build_perm k rs).filter _).map _)) (srtI_srt _)
theorem fnd_len (w : Bx) : ∀ {t : Tr}, t.ok → (fnd w t).length ≤ t.all.length := fun {t} ok => by
  rw [(fnd_perm w t ok).length_eq, List.length_map]
  exact List.length_filter_le _ _
theorem bd_leaf {k : Nat} {rs : List TRow} (h : rs.length ≤ 8) : build k rs = .leaf rs := by
  cases k with
  | zero => rfl
  | succ k => unfold build; rw [if_pos h]
theorem bd_node {k : Nat} {rs : List TRow} (h : ¬ rs.length ≤ 8) : build (k + 1) rs = .node (hullR rs) (build k ((ordR (hullR rs) rs).take (rs.length / 2))) (build k ((ordR (hullR rs) rs).drop (rs.length / 2))) := by
  conv => lhs; unfold build
  rw [if_neg h]
end DL
namespace DL
open PySem PySem.Spec PyProof.Rows L2
theorem cutDr2 (l : List D) {k : Int} (h : 0 ≤ k) : cutD l (some k) none = l.drop k.toNat := by
  unfold cutD
  show (l.drop (HT.sIx l.length 0 (some k))).take (l.length - HT.sIx l.length 0 (some k)) = _
  have e : HT.sIx l.length 0 (some k) = min k.toNat l.length := by
    unfold HT.sIx; simp only; split <;> omega
  rw [e, List.take_of_length_le (by rw [List.length_drop]; exact Nat.le_refl _)]
  by_cases hk : k.toNat ≤ l.length
  · rw [Nat.min_eq_left hk]
  · rw [Nat.min_eq_right (by omega), List.drop_eq_nil_of_le (Nat.le_refl _), List.drop_eq_nil_of_le (by omega)]
theorem cutTr (l : List D) {k : Int} (h : 0 ≤ k) : cutD l none (some k) = l.take k.toNat := by
  unfold cutD
  show (l.drop 0).take (HT.sIx l.length l.length (some k) - 0) = _
  have e : HT.sIx l.length l.length (some k) = min k.toNat l.length := by
    unfold HT.sIx; simp only; split <;> omega
  rw [e, List.drop_zero, Nat.sub_zero]
  by_cases hk : k.toNat ≤ l.length
  · rw [Nat.min_eq_left hk]
  · rw [Nat.min_eq_right (by omega), List.take_of_length_le (Nat.le_refl _), List.take_of_length_le (by omega)]
theorem ov_hit (b w : Bx) : (!isNon (if (decide (max b.a w.a < min b.c w.c) && decide (max b.b w.b < min b.d w.d)) = true then boxD (max b.a w.a) (max b.b w.b) (min b.c w.c) (min b.d w.d) else .non)) = hitB b w := notNon_if _ rfl
theorem ws_forNil {X : Cx} {ρ : En} {Φ : Out → Prop} {tg iter : Expr} {body : List Stmt} {pos : Pos} (hc : X.calm = true) (hi : ID X ρ tg iter []) (hΦ : Φ (.nx ρ)) (hp : PassesOwn (model X.prog X.w) X.A X.env X.xe := by exact PassesOwn.never) (hf : ∀ x, foldedSetIterable iter X.env x = pure x := by intro _; rfl) : WS X (.For tg iter body [] pos) ρ Φ :=
  ws_for hc hi (fun _ r => r = ρ) rfl (fun i d ρ' h => by simp at h) (fun ρ' h => by subst h; exact hΦ) hp hf
theorem ov_none {b w : Bx} (h : (true && isNon (if (decide (max b.a w.a < min b.c w.c) && decide (max b.b w.b < min b.d w.d)) = true then boxD (max b.a w.a) (max b.b w.b) (min b.c w.c) (min b.d w.d) else .non)) = true) : hitB b w = false := by
  rw [Bool.true_and, isNon_if _ rfl] at h
  unfold hitB
  revert h
  cases (decide (max b.a w.a < min b.c w.c) && decide (max b.b w.b < min b.d w.d)) <;> simp
theorem ov_some {b w : Bx} (h : (true && isNon (if (decide (max b.a w.a < min b.c w.c) && decide (max b.b w.b < min b.d w.d)) = true then boxD (max b.a w.a) (max b.b w.b) (min b.c w.c) (min b.d w.d) else .non)) = false) : hitB b w = true := by
  rw [Bool.true_and, isNon_if _ rfl] at h
  unfold hitB
  simpa using h
theorem kid_dep {h : Bx} {l r t : Tr} {k : Nat} (ht : t ∈ [l, r]) (hd : (Tr.node h l r).dep ≤ k + 1) : t.dep ≤ k := by
  have hd' : 1 + max l.dep r.dep ≤ k + 1 := hd
  simp only [List.mem_cons, List.not_mem_nil, or_false] at ht
  rcases ht with rfl | rfl <;> omega
theorem kid_ok {h : Bx} {l r t : Tr} {k : Nat} (ht : t ∈ [l, r]) (hd : (Tr.node h l r).dep ≤ k + 1) (ok : (Tr.node h l r).ok) (hl : (Tr.node h l r).all.length ≤ 1000) : t.dep ≤ k ∧ t.ok ∧ t.all.length ≤ 1000 := by
  have hl' : (l.all ++ r.all).length ≤ 1000 := hl
  rw [List.length_append] at hl'
  refine ⟨kid_dep ht hd, ?_⟩
  simp only [List.mem_cons, List.not_mem_nil, or_false] at ht
  rcases ht with rfl | rfl
  · exact ⟨ok.2.1, by omega⟩
  · exact ⟨ok.2.2, by omega⟩
theorem fl_len {h : Bx} {l r : Tr} (w : Bx) (ok : (Tr.node h l r).ok) (i : Nat) : ((([l, r] : List Tr).take i).flatMap (fnd w)).length ≤ l.all.length + r.all.length := by
  have h1 := fnd_len w ok.2.1
  have h2 := fnd_len w ok.2.2
  match i with
  | 0 => simp
  | 1 => simp only [List.take_succ_cons, List.take_zero, List.flatMap_cons, List.flatMap_nil, List.append_nil]; omega
  | i + 2 => simp only [List.take_succ_cons, List.take_nil, List.flatMap_cons, List.flatMap_nil, List.append_nil, List.length_append]; omega
theorem depN_le : ∀ k n : Nat, depN k n ≤ k
  | 0, _ => Nat.le_refl _
  | k + 1, n => by
    unfold depN
    split
    · omega
    · have h1 := depN_le k (n / 2)
      have h2 := depN_le k (n - n / 2)
      omega
theorem tr_leaf {R rs : List TRow} (h : build 3 R = .leaf rs) (hl : R.length ≤ 41) : rs.length ≤ 1000 := by
  have := (build_perm 3 R).length_eq
  rw [h] at this
  have e : rs.length = R.length := this
  omega
theorem tr_node {R : List TRow} {b : Bx} {l r : Tr} (h : build 3 R = .node b l r) (hl : R.length ≤ 41) : (Tr.node b l r).dep ≤ 3 ∧ (Tr.node b l r).ok ∧ (Tr.node b l r).all.length ≤ 1000 := by
  have e := (build_perm 3 R).length_eq
  have d := build_dep 3 R
  have o := build_ok 3 R
  rw [h] at e d o
  exact ⟨by rw [d]; exact depN_le _ _, o, by omega⟩
end DL
namespace DL
open PySem PySem.Spec PyProof.Rows L2
theorem cps_app (x y : Str) : (x ++ y).cps.toList = x.cps.toList ++ y.cps.toList := by
  show (x.cps ++ y.cps).toList = _
  rw [Array.toList_append]
def kindOf (r : Int) : Str := if r % 2 = 0 then "n" else "p"
end DL
namespace DL
open PySem PySem.Spec PyProof.Rows L2
def layN : List Str := ["well", "active", "poly", "contact", "metal", "via", "top"]
def labN : List Str := ["active", "poly", "metal", "top"]
abbrev Shp := Str × Bx
def shE (s : Shp) : D := .tup [.str s.1, s.2.e]
def shB (s : Shp) : Bool := decide (s.1 ∈ layN) && (decide (s.2.a < s.2.c) && decide (s.2.b < s.2.d))
structure Lab where
  n : Str
  l : Str
  x : Int
  y : Int
def Lab.e (v : Lab) : D := .tup [.str v.n, .str v.l, .int v.x, .int v.y]
def labB (v : Lab) : Bool := nameB v.n && decide (v.l ∈ labN)
structure Pla where
  n : Str
  t : Int
  dx : Int
  dy : Int
  c : Int
  r : Int
  sx : Int
  sy : Int
def Pla.e (v : Pla) : D := .tup [.str v.n, .tup [.int v.t, .int v.dx, .int v.dy], .int v.c, .int v.r, .int v.sx, .int v.sy]
def plaB (v : Pla) : Bool := nameB v.n && ((decide (0 ≤ v.t) && decide (v.t < 8)) && ((decide (1 ≤ v.c) && decide (v.c ≤ 100)) && (decide (1 ≤ v.r) && decide (v.r ≤ 100))))
def celB (n : Str) (S : List Shp) (L : List Lab) (P : List Pla) : Bool := nameB n && (S.all shB && (L.all labB && P.all plaB))
structure CelOk (n : Str) (S : List Shp) (L : List Lab) (P : List Pla) : Prop where
  n : nameB n = true
  s : ∀ x ∈ S, shB x = true
  l : ∀ x ∈ L, labB x = true
  p : ∀ x ∈ P, plaB x = true
theorem CelOk.b {n : Str} {S : List Shp} {L : List Lab} {P : List Pla} (ok : CelOk n S L P) : celB n S L P = true := by
  unfold celB
  rw [ok.n, List.all_eq_true.mpr ok.s, List.all_eq_true.mpr ok.l, List.all_eq_true.mpr ok.p]; rfl
theorem at_getC {α : Type} {xs : List α} {f : α → D} {i : Int} {a : α} (h : 0 ≤ i ∧ i < xs.length) : atI (xs.map f) i = some (f (xs.getD i.toNat a)) := by
  have hi : i.toNat < xs.length := by omega
  refine atI_nn h.1 ?_
  rw [List.getElem?_map, List.getElem?_eq_getElem hi, List.getD_eq_getElem?_getD, List.getElem?_eq_getElem hi]
  rfl
def MD : Nat → D → Prop
  | 0, d => (∃ i, d = .int i) ∨ ∃ z, d = .str z
  | k + 1, d => ((∃ i, d = .int i) ∨ ∃ z, d = .str z) ∨ ∃ es, d = .tup es ∧ es.length ≤ 1000 ∧ ∀ e ∈ es, MD k e
class MdC (k : Nat) (d : D) (P : outParam Prop) where
  out : MD k d → P
instance (d : D) : MdC 0 d ((∃ i, d = .int i) ∨ ∃ z, d = .str z) := ⟨fun h => h⟩
instance (k : Nat) (d : D) : MdC (k + 1) d ((∃ i, d = .int i) ∨ (∃ z, d = .str z) ∨ ∃ es, d = .tup es ∧ es.length ≤ 1000 ∧ ∀ e ∈ es, MD k e) := ⟨fun h => by
  rcases h with (h | h) | h
  · exact .inl h
  · exact .inr (.inl h)
  · exact .inr (.inr h)⟩
theorem md_cases {k : Nat} {d : D} {P : Prop} [c : MdC k d P] (h : MD k d) : P := c.out h
theorem getD_mem {α : Type} {xs : List α} {i : Int} {a : α} (h : 0 ≤ i ∧ i < xs.length) : xs.getD i.toNat a ∈ xs := by
  have hi : i.toNat < xs.length := by omega
  rw [List.getD_eq_getElem?_getD, List.getElem?_eq_getElem hi]
  exact List.getElem_mem hi
theorem MD.up : ∀ {k : Nat} {d : D}, MD k d → MD (k + 1) d
  | 0, d, h => .inl h
  | k + 1, d, h => by
    rcases h with h | ⟨es, e, h1, h2⟩
    · exact .inl h
    · exact .inr ⟨es, e, h1, fun x hx => MD.up (h2 x hx)⟩
theorem md_int {k : Nat} {i : Int} : MD k (.int i) := by
  cases k with
  | zero => exact .inl ⟨i, rfl⟩
  | succ k => exact .inl (.inl ⟨i, rfl⟩)
theorem md_str {k : Nat} {z : Str} : MD k (.str z) := by
  cases k with
  | zero => exact .inr ⟨z, rfl⟩
  | succ k => exact .inl (.inr ⟨z, rfl⟩)
theorem md_tup {k : Nat} {es : List D} (h : es.length ≤ 1000) (h2 : ∀ e ∈ es, MD k e) : MD (k + 1) (.tup es) := .inr ⟨es, rfl, h, h2⟩
theorem md_nil {k : Nat} : ∀ e ∈ ([] : List D), MD k e := fun e he => by simp at he
theorem md_cons {k : Nat} {d : D} {ds : List D} (h : MD k d) (r : ∀ e ∈ ds, MD k e) : ∀ e ∈ d :: ds, MD k e := fun e he => by
  rcases List.mem_cons.mp he with rfl | he
  · exact h
  · exact r e he
theorem name_1000 {n : Str} (h : nameB n = true) : n.length ≤ 1000 := by have := nameB_len h; omega
def nmX (n : Str) (d : Int) : Str := ([n, "abcdefgh1234", "q"] : List Str).getD (d % 3).toNat ""
theorem nmX_ok {n : Str} {d : Int} (h : nameB n = true) : nameB (nmX n d) = true := by
  have hm := getD_mem (xs := ([n, "abcdefgh1234", "q"] : List Str)) (i := d % 3) (a := "") (by show _ ∧ _ < (3 : Int); omega)
  have hm2 : nmX n d ∈ ([n, "abcdefgh1234", "q"] : List Str) := hm
  simp only [List.mem_cons, List.not_mem_nil, or_false] at hm2
  rcases hm2 with e | e | e <;> rw [e]
  · exact h
  · decide +kernel
  · decide +kernel
def zzP (d : Int) : Pla := ⟨"zz", 7, 100000000000000000000, -5, 100, 1 + d % 100, -d, 1000000000000000⟩
theorem zzP_ok (d : Int) : plaB (zzP d) = true := by
  unfold plaB
  rw [show nameB (zzP d).n = true from (by decide +kernel : nameB "zz" = true)]
  simp only [Bool.true_and, Bool.and_eq_true, decide_eq_true_eq]
  exact ⟨⟨by show (0 : Int) ≤ 7; decide, by show (7 : Int) < 8; decide⟩, ⟨by show (1 : Int) ≤ 100; decide, by show (100 : Int) ≤ 100; decide⟩, show 1 ≤ 1 + d % 100 by omega, show 1 + d % 100 ≤ 100 by omega⟩
theorem CelOk.more {n : Str} {S : List Shp} {L : List Lab} {P : List Pla} (ok : CelOk n S L P) (d : Int) : CelOk (nmX n d) S L (P ++ [zzP d]) := ⟨nmX_ok ok.n, ok.s, ok.l, fun x hx => by
  rcases List.mem_append.mp hx with h | h
  · exact ok.p x h
  · rw [List.mem_singleton] at h; subst h; exact zzP_ok d⟩
theorem CelOk.ln {n : Str} {S : List Shp} {L : List Lab} {P : List Pla} (ok : CelOk n S L P) : ∀ v ∈ L, v.n.length ≤ 1000 := fun v hv => by
  have h := ok.l v hv
  unfold labB at h
  rw [Bool.and_eq_true] at h
  exact name_1000 h.1
theorem CelOk.pn {n : Str} {S : List Shp} {L : List Lab} {P : List Pla} (ok : CelOk n S L P) : ∀ v ∈ P, v.n.length ≤ 1000 := fun v hv => by
  have h := ok.p v hv
  unfold plaB at h
  rw [Bool.and_eq_true] at h
  exact name_1000 h.1
end DL
namespace DL
open PySem PySem.Spec PyProof.Rows L2
theorem drs_imp {K : PySem.W.Frag} {H : Hp} : ∀ {ds es : List D} {vs : List V}, ds.length = es.length → (∀ (i : Nat) d e, ds[i]? = some d → es[i]? = some e → ∀ u, DR K H d u → DR K H e u) → DRs K H ds vs → DRs K H es vs
  | [], [], vs, _, _, r => r
  | d :: ds, e :: es, vs, l, h, r => by
    obtain ⟨v, w, rfl, r1, r2⟩ := r
    exact ⟨v, w, rfl, h 0 d e rfl rfl v r1, drs_imp (by simpa using l) (fun i d e h1 h2 => h (i + 1) d e (by simpa using h1) (by simpa using h2)) r2⟩
theorem obj_imp {K : PySem.W.Frag} {H : Hp} {cn : Str} {ns : List Str} {ds es : List D} {v : V} (r : DR K H (.obj cn ns ds) v) (l : ds.length = es.length) (h : ∀ (i : Nat) d e, ds[i]? = some d → es[i]? = some e → ∀ u, DR K H d u → DR K H e u) : DR K H (.obj cn ns es) v := by
  obtain ⟨a, C, dx, vs, h1, hn, h2, h4, h3⟩ := r
  exact ⟨a, C, dx, vs, h1, hn, h2, h4, drs_imp l h h3⟩
end DL
namespace DL
open PySem PySem.Spec PyProof.Rows L2
section
variable {X : Cx} {ρ : En} {pos : Pos}
open PySem.AutoSeq1 (wpAny_loadPart')
def catS (zs : List Str) : Str := zs.foldl (· ++ ·) Str.empty
def sumL (zs : List Str) : Nat := (zs.map (·.length)).sum
/-- the parts of an f-string -/
def FSd (X : Cx) (ρ : En) (es : List Expr) (zs : List Str) : Prop := ∀ B0 B σ H0 H (acc : Str) (Q : Str → Hp → Prop), J X.K B0 B σ H0 H ρ → acc.length + sumL zs ≤ sizeLine → (∀ H0' H', JH H0 H H0' H' → Q (zs.foldl (· ++ ·) acc) H') → tJs (es.map (RE X)) acc σ H Q
theorem pj_star : ∀ es : List Expr, PJ X es (es.map (RE X))
  | [] => .nil
  | _ :: es => .cons pe_star (pj_star es)
theorem app_len (a b : Str) : (a ++ b).length = a.length + b.length := Array.size_append
variable {e o : Expr} {es : List Expr} {zs : List Str} {z : Str}
theorem fs_nil : FSd X ρ [] [] := fun B0 B σ H0 H acc Q j hl k => k H0 H (JH.refl j.same)
theorem fm_s {p : Pos} (h : ED X ρ e (.str z)) (hl : z.length ≤ sizeLine) : ED X ρ (.FormattedValue e (-1) none p) (.str z) := fun B0 B σ H0 H Q j k => RE.of (pe_fmt pe_star) (h B0 B σ H0 H _ j fun v G0 G g r => by
  cases (show v = .str z from r)
  exact .inl ⟨z, rfl, hl, k _ G0 G g rfl⟩)
theorem fm_i {p : Pos} {i : Int} (h : ED X ρ e (.int i)) (hl : i.natAbs.log2 < 1920) : ED X ρ (.FormattedValue e (-1) none p) (.str (Str.ofString (toString i))) := fun B0 B σ H0 H Q j k => RE.of (pe_fmt pe_star) (h B0 B σ H0 H _ j fun v G0 G g r => by
  cases (show v = .int i from r)
  exact .inr ⟨i, rfl, hl, k _ G0 G g rfl⟩)
theorem sumL_cons (z : Str) (zs : List Str) : sumL (z :: zs) = z.length + sumL zs := by simp [sumL]
theorem fs_cons (h : ED X ρ e (.str z)) (r : FSd X ρ es zs) : FSd X ρ (e :: es) (z :: zs) := fun B0 B σ H0 H acc Q j hl k => by
  rw [sumL_cons] at hl
  refine h B0 B σ H0 H _ j fun v G0 G g rv => ?_
  cases (show v = .str z from rv)
  refine ⟨z, rfl, by rw [app_len]; omega, ?_⟩
  exact r B0 B σ G0 G (acc ++ z) Q (j.grow g) (by rw [app_len]; omega) fun L0 L g2 => k L0 L (g.trans g2)
theorem ed_fs {e2 : Expr} (h : FSd X ρ (e :: e2 :: es) zs) (hl : sumL zs ≤ sizeLine) : ED X ρ (.JoinedStr (e :: e2 :: es) pos) (.str (catS zs)) := fun B0 B σ H0 H Q j k =>
  RE.of (pe_joined (pj_star _)) (h B0 B σ H0 H Str.empty (fun out H1 => Q (.str out) H1) j (by show 0 + _ ≤ _; omega) fun G0 G g => k _ G0 G g rfl)
end
/-- what the top says of a property of a class: its def at hand -/
structure FnP (P : Program) (w : World) (K : PySem.W.Frag) (mg : Str → Option Value) (base : Heap) (cn m : Str) (k : Nat) (R : List D → D → Prop) : Prop where
  ex : ∃ C p f fd ps, PySem.W.nsIn K mainGlobals cn = some (some (.ref C)) ∧ Cls K C ∧ PropOf K C m p f ∧ FnOk P w K mg base CX0 k f fd ps (spR K R) ∧ Binds K fd ps []
theorem ed_prop {X : Cx} {ρ : En} {o : Expr} {pos : Pos} {cn m : Str} {k : Nat} {R : List D → D → Prop} {fds : List D} {ns : List Str} {d : D} (G : FnP X.prog X.w X.K X.mg X.base cn m k R) (hr : Room (k + 1) X.A) (ho : ED X ρ o (.obj cn ns fds)) (hR : R [.obj cn ns fds] d)
    (hab : attributeBase o m X.env (eval o X.env) = eval o X.env := by rfl) : ED X ρ (.Attribute o m pos) d := fun B0 B σ H0 H Q j kk => by
  obtain ⟨C, p, f, fd, ps, hC, hc, hp, F, hb⟩ := G.ex
  refine RE.of (pe_prop (E := E0) pe_star hc hp F hr hb .nil pass0 hab) (ho B0 B σ H0 H _ j fun v G0 G g r => ?_)
  obtain ⟨a, C', dx, vs, rfl, hC', hA, hlen, hvs⟩ := id r
  rw [hC] at hC'; cases hC'
  exact ⟨a, dx, _, rfl, g.sh _ _ hA, G0, [.obj cn ns fds], d, g.sh, ⟨_, _, rfl, r, rfl⟩, hR, fun v L0 L g2 r2 => kk v L0 L (g.trans g2) r2⟩
end DL
namespace DL
open PySem PySem.Spec PyProof.Rows L2
abbrev stI (i : Int) : Str := Str.ofString (toString i)
theorem str_ext {a b : Str} (h : a.cps.toList = b.cps.toList) : a = b := by
  obtain ⟨⟨x⟩⟩ := a; obtain ⟨⟨y⟩⟩ := b
  simp at h; rw [h]
theorem ofString_app (a b : String) : Str.ofString (a ++ b) = Str.ofString a ++ Str.ofString b := by
  refine str_ext ?_
  rw [cps_app]
  simp only [Str.ofString_eq_toList, String.toList_append, List.map_append]
theorem stI_neg {n : Nat} (h : 0 < n) : stI (-(n : Int)) = ("-" : Str) ++ stI (n : Int) := by
  obtain ⟨m, rfl⟩ := Nat.exists_eq_succ_of_ne_zero (by omega : n ≠ 0)
  show Str.ofString (toString (Int.negSucc m)) = _
  have e : toString (Int.negSucc m) = "-" ++ toString ((m + 1 : Nat) : Int) := rfl
  rw [e, ofString_app]
theorem stI_len {i : Int} {k : Nat} (hk : 0 < k) (h : i.natAbs < 10 ^ k) : (stI i).length ≤ k + 1 := by
  have e : ∀ n : Nat, n < 10 ^ k → (stI (n : Int)).length ≤ k := fun n hn => by
    rw [TL.len_tl, TL.tl_num]
    exact TL.numL_len hk hn
  rcases Int.lt_or_le i 0 with hi | hi
  · have : i = -((i.natAbs : Nat) : Int) := by omega
    rw [this, stI_neg (by omega), app_len]
    have := e i.natAbs h
    have h1 : ("-" : Str).length = 1 := by decide +kernel
    omega
  · have : i = ((i.natAbs : Nat) : Int) := by omega
    rw [this]
    have := e i.natAbs h
    omega
structure Sm (i : Int) : Prop where
  b : i.natAbs < 10 ^ 40
theorem Sm.len {i : Int} (h : Sm i) : (stI i).length ≤ 41 := stI_len (by decide) h.b
theorem Sm.log {i : Int} (h : Sm i) : i.natAbs.log2 < 1920 := by
  have h1 := h.b
  by_cases h0 : i.natAbs = 0
  · rw [h0]; decide
  · have := (Nat.log2_lt h0 (k := 200)).mpr (Nat.lt_of_lt_of_le h1 (by decide +kernel))
    omega
theorem sm_small {x : Int} (h : x.natAbs ≤ 10 ^ 31) : Sm x := ⟨by omega⟩
end DL
namespace DL
open PySem PySem.Spec PyProof.Rows L2
section
variable {X : Cx} {ρ : En} {pos : Pos} {e : Expr}
/-- what a slot owns is shown while e is asked, which gives what stands nowhere -/
theorem ed_showO (i : Nat) {c : OC} {d : D} (hi : ρ[i]? = some (.ow c)) (h : ED X (ρ.set i (.sh c.d)) e d) (hf : fltD d = true := by rfl) : ED X ρ e d := fun B0 B σ H0 H Q j kk => by
  obtain ⟨a, j'⟩ := j.tell hi
  have hl : i < ρ.length := (List.getElem?_eq_some_iff.mp hi).1
  refine ed_show (ρ := ρ.set i (.ox [(a, c)] (.ad a))) i c.d (by rw [List.getElem?_set_self hl]) (fun K H v h1 h2 => ?_) (by rw [List.set_set]; exact h) hf B0 B σ H0 H Q j' kk
  cases (show v = .ref a from h2)
  exact h1 (a, c) (List.mem_singleton_self _)
theorem td_showO (i : Nat) {c : OC} {k : Bool} (hi : ρ[i]? = some (.ow c)) (h : TD X (ρ.set i (.sh c.d)) e k) : TD X ρ e k := fun B0 B σ H0 H Q j kk => by
  obtain ⟨a, j'⟩ := j.tell hi
  have hl : i < ρ.length := (List.getElem?_eq_some_iff.mp hi).1
  refine td_show (ρ := ρ.set i (.ox [(a, c)] (.ad a))) i c.d (by rw [List.getElem?_set_self hl]) (fun K H v h1 h2 => ?_) (by rw [List.set_set]; exact h) B0 B σ H0 H Q j' kk
  cases (show v = .ref a from h2)
  exact h1 (a, c) (List.mem_singleton_self _)
def fltDs : List D → Bool
  | [] => true
  | d :: ds => fltD d && fltDs ds
theorem fltDs_map {α : Type} {f : α → D} (h : ∀ x, fltD (f x) = true) : ∀ xs : List α, fltDs (xs.map f) = true
  | [] => rfl
  | x :: xs => by show (fltD (f x) && fltDs (xs.map f)) = true; rw [h x, fltDs_map h xs]; rfl
theorem DRs.flat {K : PySem.W.Frag} {H H' : Hp} : ∀ {ds : List D} {vs : List V}, fltDs ds = true → DRs K H ds vs → DRs K H' ds vs
  | [], vs, _, h => h
  | d :: ds, vs, f, h => by
    obtain ⟨v, w, rfl, h1, h2⟩ := h
    have f' : (fltD d && fltDs ds) = true := f
    rw [Bool.and_eq_true] at f'
    exact ⟨v, w, rfl, DR.flat f'.1 h1, DRs.flat f'.2 h2⟩
/-- the same for a new list of what stands nowhere -/
theorem eo_show (i : Nat) (d' : D) {d0 : D} {cs : Cs} {ds : List D} (hi : ρ[i]? = some (.ox cs d0)) (hd : ∀ (K : PySem.W.Frag) (H : Hp) v, (∀ p ∈ cs, DR K H p.2.d (.ref p.1)) → DR K H d0 v → DR K H d' v) (h : EO X (ρ.set i (.sh d')) e (.lst ds)) (hf : fltDs ds = true := by first | rfl | exact fltDs_map (fun _ => rfl) _) : EO X ρ e (.lst ds) := fun B0 B σ H0 H Q j kk => by
  obtain ⟨H1, j1, s1, r1, n1, z1⟩ := shareAllX j hi
  have hl : i < σ.length := by rw [j.len]; exact (List.getElem?_eq_some_iff.mp hi).1
  obtain ⟨ov, e1, v, e2, r2⟩ := j1.get (i := i) (s := .sh d0) (by rw [List.getElem?_set_self (by rw [← j.len]; exact hl)])
  have j2 := j1.setSl (i := i) (s := .sh d') e1 ⟨v, e2, hd _ _ v r1 r2⟩ fun a w => w.elim
  rw [List.set_set] at j2
  refine h B0 B σ H1 H Q j2 fun a o G0 G g w1 w2 w3 w4 => kk a o (ers G0 (pl cs)) G (g.unshow s1 n1 z1) w1 ?_ w3 ?_
  · by_cases m : a ∈ pl cs
    · exact ers_in m
    · rw [ers_out m]; exact w2
  · obtain ⟨vs, rfl, r⟩ := w4
    exact ⟨vs, rfl, DRs.flat hf r⟩
end
end DL
namespace DL
open PySem PySem.Spec PyProof.Rows L2
section
variable {K : PySem.W.Frag} {B0 B H0 H : Hp} {σ : L2.St} {ρ : En}
/-- some cells of a slot are let go, the rest in any order -/
theorem J.pick (j : J K B0 B σ H0 H ρ) {i : Nat} {cs cs' : Cs} {d : D} (h : ρ[i]? = some (.ox cs d)) (p : ∀ x ∈ cs', x ∈ cs) (nd : (pl cs).Nodup → (pl cs').Nodup) : J K B0 B σ H0 H (ρ.set i (.ox cs' d)) := by
  obtain ⟨ov, e1, f1, f2, f3⟩ := j.get h
  exact j.setSl (s := .ox cs' d) e1 ⟨f1, fun q hq => f2 q (p q hq), nd f3⟩ (j.sub h e1 fun a w => by
    have w' : a ∈ cs'.map (·.1) := w
    obtain ⟨x, hx, rfl⟩ := List.mem_map.mp w'
    exact List.mem_map.mpr ⟨x, p x hx, rfl⟩)
end
section
variable {X : Cx} {ρ : En} {e : Expr} {pos : Pos} {d : D} {cn : Str} {fs ns : List Str} {ds : List D} {f : Str} {Φ : Out → Prop} {rest : List Stmt}
theorem ws_pick (s : Nat) {cs cs' : Cs} {d0 : D} (hρ : ρ[s]? = some (.ox cs d0)) (p : ∀ x ∈ cs', x ∈ cs) (nd : (pl cs).Nodup → (pl cs').Nodup) (h : WSs X rest (ρ.set s (.ox cs' d0)) Φ) : WSs X rest ρ Φ := fun B0 B σ H0 H Dn j k => h B0 B σ H0 H Dn (j.pick hρ p nd) k
/-- self.f = e again, cells beside it -/
theorem ws_setFCU (s m : Nat) {a : Addr} {x : Str} {p pos' : Pos} {value : Expr} {cs : Cs} (kl : Kl X.K X.mg cn fs) (hρ : ρ[s]? = some (.ox ((a, .ins cn ns ds) :: cs) (.ad a))) (hv : ED X ρ value d) (hΦ : Φ (.nx (ρ.set s (.ox ((a, .ins cn ns (ds.set m d)) :: cs) (.ad a)))))
    (hold : ns[m]? = some f := by rfl) (hu : (ns.take m).contains f = false := by decide +kernel) (hf : f ∈ fs := by decide +kernel) (hlt : ns.length < 1000 := by decide)
    (hN : X.N[s]? = some x := by rfl) (hvis : Vis X.env.scope x := by first | exact Or.inl rfl | exact Or.inr (Or.inl rfl) | exact Or.inr (Or.inr rfl)) (hdb : (x == ("__debug__" : Str)) = false := by decide) (hcd : (x == ("__classdict__" : Str)) = false := by decide)
    (hs : swapsWith value (some (.Attribute (.Name x p) f pos')) pos.line X.env = pure false := by rfl) : WS X (.Assign [.Attribute (.Name x p) f pos'] value pos) ρ Φ := fun B0 B σ H0 H Dn j k => by
  refine ⟨_, ps_fld (pe_var hN hvis hdb hcd) pe_star hs, hv B0 B σ H0 H _ j fun v G0 G g r => ?_⟩
  have j1 := j.grow g
  obtain ⟨ov, e1, ⟨v1, rfl, rv⟩, hcs, nd⟩ := j1.get hρ
  cases (show v1 = .ref a from rv)
  obtain ⟨o, h1, h2, h3, vs, C, dx, rfl, hC, hlen, hvs⟩ := (hcs _ (List.mem_cons_self ..)).ex
  obtain ⟨C', hC', hm, hc, hk, hna⟩ := kl.ex
  rw [hC] at hC'; cases hC'
  have hl : (ns.zip vs).length < 1000 := by rw [List.length_zip]; omega
  refine ⟨_, e1, a, C, dx, _, rfl, h1, hc.cl, hna f hf, hl, ?_⟩
  rw [putF_old hold hu hlen]
  have hds : DRs X.K G0 (ds.set m d) (vs.set m v) := DRs.set r m hvs
  have j2 := j1.put (c' := .ins cn ns (ds.set m d)) (o := .ins C dx (ns.zip (vs.set m v))) hρ (List.mem_cons_self ..) ⟨vs.set m v, C, dx, rfl, hC, by simp [hlen], hds⟩
  rw [putC_hd nd] at j2
  exact k _ hΦ _ _ _ j2
/-- self.f = a new own thing, again -/
theorem ws_setFOU (s m : Nat) {a : Addr} {x : Str} {p pos' : Pos} {value : Expr} {cs : Cs} {c : OC} (kl : Kl X.K X.mg cn fs) (hρ : ρ[s]? = some (.ox ((a, .ins cn ns ds) :: cs) (.ad a))) (hv : EO X ρ value c) (hΦ : ∀ q, Φ (.nx (ρ.set s (.ox ((a, .ins cn ns (ds.set m (.ad q))) :: (cs ++ [(q, c)])) (.ad a)))))
    (hold : ns[m]? = some f := by rfl) (hu : (ns.take m).contains f = false := by decide +kernel) (hf : f ∈ fs := by decide +kernel) (hlt : ns.length < 1000 := by decide)
    (hN : X.N[s]? = some x := by rfl) (hvis : Vis X.env.scope x := by first | exact Or.inl rfl | exact Or.inr (Or.inl rfl) | exact Or.inr (Or.inr rfl)) (hdb : (x == ("__debug__" : Str)) = false := by decide) (hcd : (x == ("__classdict__" : Str)) = false := by decide)
    (hs : swapsWith value (some (.Attribute (.Name x p) f pos')) pos.line X.env = pure false := by rfl) : WS X (.Assign [.Attribute (.Name x p) f pos'] value pos) ρ Φ := fun B0 B σ H0 H Dn j k => by
  refine ⟨_, ps_fld (pe_var hN hvis hdb hcd) pe_star hs, hv B0 B σ H0 H _ j fun q oq G0 G g q1 q2 q3 q4 => ?_⟩
  have j1 := j.more g hρ q1 q2 q3 q4
  have hlt' : s < ρ.length := (List.getElem?_eq_some_iff.mp hρ).1
  obtain ⟨ov, e1, ⟨v1, rfl, rv⟩, hcs, nd⟩ := j1.get (i := s) (s := .ox ((a, .ins cn ns ds) :: (cs ++ [(q, c)])) (.ad a)) (by rw [List.getElem?_set_self hlt']; rfl)
  cases (show v1 = .ref a from rv)
  obtain ⟨o, h1, h2, h3, vs, C, dx, rfl, hC, hlen, hvs⟩ := (hcs _ (List.mem_cons_self ..)).ex
  obtain ⟨C', hC', hm, hc, hk, hna⟩ := kl.ex
  rw [hC] at hC'; cases hC'
  have hl : (ns.zip vs).length < 1000 := by rw [List.length_zip]; omega
  refine ⟨_, e1, a, C, dx, _, rfl, h1, hc.cl, hna f hf, hl, ?_⟩
  rw [putF_old hold hu hlen]
  have j2 := j1.put (i := s) (cs := (a, .ins cn ns ds) :: (cs ++ [(q, c)])) (d := .ad a) (c' := .ins cn ns (ds.set m (.ad q))) (o := .ins C dx (ns.zip (vs.set m (.ref q)))) (by rw [List.getElem?_set_self hlt']; rfl) (List.mem_cons_self ..) ⟨vs.set m (.ref q), C, dx, rfl, hC, by simp [hlen], DRs.set (d := .ad q) (v := V.ref q) rfl m hvs⟩
  rw [putC_hd nd, List.set_set] at j2
  exact k _ (hΦ q) _ _ _ j2
def TP (X : Cx) (ρ : En) (e : Expr) (Ψ : Bool → En → Prop) : Prop := ∀ B0 B σ H0 H (Q : Bool → Hp → Prop), J X.K B0 B σ H0 H ρ → (∀ b ρ' H0' H', Ψ b ρ' → J X.K B0 B σ H0' H' ρ' → Q b H') → RT X e σ H Q
theorem tp_val {Ψ : D → En → Prop} (h : EP X ρ e Ψ) (hb : ∀ d ρ', Ψ d ρ' → ∃ b, d = .bl b) (he : ∀ whole, isTrue e X.env whole = (do let v ← whole; standAt e.pos; holding [v] (truthy v)) := by intro _; rfl) : TP X ρ e (fun b ρ' => Ψ (.bl b) ρ') := fun B0 B σ H0 H Q j kk =>
  RT.of (pt_val pe_star he) (h B0 B σ H0 H _ j fun d ρ' v H0' H' w s1 j1 r => by
    obtain ⟨b, rfl⟩ := hb d ρ' w
    exact ⟨b, r, kk b ρ' H0' H' w j1⟩)
theorem tp_not {Ψ : Bool → En → Prop} (h : TP X ρ e Ψ) : TP X ρ (.UnaryOp .Not e pos) (fun b ρ' => Ψ (!b) ρ') := fun B0 B σ H0 H Q j kk =>
  RT.of (pt_not pt_star) (h B0 B σ H0 H _ j fun b ρ' H0' H' w j1 => kk (!b) ρ' H0' H' (by show Ψ (!!b) ρ'; rw [Bool.not_not]; exact w) j1)
theorem ws_ifP {Ψ : Bool → En → Prop} {sa sb : List Stmt} (hc : TP X ρ e Ψ) (h1 : ∀ ρ', Ψ true ρ' → WSs X sa ρ' Φ) (h2 : ∀ ρ', Ψ false ρ' → WSs X sb ρ' Φ) : WS X (.If e sa sb pos) ρ Φ := fun B0 B σ H0 H Dn j kk => by
  refine ⟨_, ps_if pt_star pss_star pss_star, hc B0 B σ H0 H _ j fun b ρ' H0' H' w j1 => ?_⟩
  cases b with
  | true => exact iteT (h1 ρ' w B0 B σ H0' H' Dn j1 kk)
  | false => exact iteF (h2 ρ' w B0 B σ H0' H' Dn j1 kk)
end
theorem call_lenDkR {X : Cx} : CallR X (.builtin "len") (fun xs H Q => ∃ a kvs, xs = [V.ref a] ∧ Rd H a (.dK kvs) ∧ Q (.int kvs.length) H) := by
  intro pins s σ H vs us Q I r h
  obtain ⟨a, kvs, rfl, hd, q⟩ := h
  rw [Vals.ref1 r]
  exact d_len I hd fun t s' I' => ⟨.int kvs.length, H, I', ⟨t, rfl⟩, q⟩
theorem bc_lenDk {X : Cx} {ks : List Key} {ds : List D} : BC X (.builtin "len") [.dk ks ds] (.int ks.length) := bc_keep call_lenDkR _ (fun _ => rfl) fun H0 H vs _ s r q => by
  obtain ⟨x, rfl, h⟩ := r.one'
  obtain ⟨a, ws, rfl, h1, h2, h3⟩ := h
  refine ⟨a, _, rfl, Same.rd s h1, ?_⟩
  rw [List.length_zip, ← h2, Nat.min_self]; exact q
/-- C(), whose __init__ keeps its instance for the maker -/
theorem ec_make0 {X : Cx} {ρ : En} {pos : Pos} {cn : Str} {k : Nat} {R : RIL} {Ψ : Addr → Cs → Prop} {p : Pos} (G : FnIL X.prog X.w X.K X.mg X.base cn k R) (hr : Room (k + 1) X.A) (hg : Gl X cn) (hR : ∀ a, R a [] (Ψ a))
    (hdb : (cn == ("__debug__" : Str)) = false := by decide +kernel) : EC X ρ (.Call (.Name cn p) [] [] pos) Ψ := fun B0 B σ H0 H Q j kk => by
  obtain ⟨C, f, fd, ps, hC, hm, M, F, hb⟩ := G.ex
  refine RE.of (pe_make0 (E := E0) M F hr hg hm hb .nil pass0 hdb) ?_
  intro x dx hx hdx hne
  have g : JH H0 H H0 H := JH.refl j.same
  have g0x : H0 x = none := g.sh.free hx
  have g0d : H0 dx = none := g.sh.free hdx
  have s1 : Same H0 (upd (upd H dx (.own x)) x (.ins C dx [])) := fun b u q => by
    rw [upd_ne (ne_of_none q g0x), upd_ne (ne_of_none q g0d)]
    exact g.sh b u q
  have sE : Same H (er (upd (upd H dx (.own x)) x (.ins C dx [])) x) := fun b u q => by
    have n1 := ne_of_none q hx
    rw [er_ne n1, upd_ne n1, upd_ne (ne_of_none q hdx)]
    exact q
  refine ⟨H0, x, C, dx, [], [], Ψ x, rfl, hC, s1, upd_same, g0x, rfl, hR x, fun cs' L0 L w gg hc nd => ⟨rfl, ?_⟩⟩
  refine kk x cs' L0 L w ⟨gg.s0, gg.sh, sE.trans gg.sB, fun b u q nt q' => gg.fr b u (sE b u q) nt q'⟩ (fun p hp => ?_) nd
  obtain ⟨o, q1, q2, q3, q4⟩ := (hc p hp).ex
  exact ⟨o, q1, q2, sE.free q3, q4⟩
end DL
namespace DL
open PySem PySem.Spec PyProof.Rows L2
/-- alike but for a dict at a, that is locked in one -/
structure Fz (a : Addr) (t : List (List Key × V)) (H H' : Hp) : Prop where
  at1 : Rd H a (.dT t)
  at2 : Rd H' a (.dT t)
  ne : ∀ b, b ≠ a → H' b = H b
theorem Rd.uniq {H : Hp} {a : Addr} {u w : HO} (h : Rd H a u) (k : Rd H a w) (hu : ∀ o x, u ≠ .frz o x) (hw : ∀ o x, w ≠ .frz o x) : u = w := by
  rcases h with h | ⟨o, h⟩ <;> rcases k with k | ⟨o', k⟩
  · exact Option.some.inj (h.symm.trans k)
  · exact absurd (Option.some.inj (h.symm.trans k)) (hu _ _)
  · exact absurd (Option.some.inj (k.symm.trans h)) (hw _ _)
  · have := Option.some.inj (h.symm.trans k); injection this
theorem Fz.rd {a : Addr} {t : List (List Key × V)} {H H' : Hp} (f : Fz a t H H') {b : Addr} {u : HO} (hu : ∀ o x, u ≠ .frz o x) (h : Rd H b u) : Rd H' b u := by
  by_cases e : b = a
  · subst e
    rw [Rd.uniq h f.at1 hu (fun _ _ z => by cases z)]
    exact f.at2
  · rcases h with h | ⟨o, h⟩
    · exact .inl (by rw [f.ne b e]; exact h)
    · exact .inr ⟨o, by rw [f.ne b e]; exact h⟩
mutual
theorem Fz.dr {K : PySem.W.Frag} {a : Addr} {t : List (List Key × V)} {H H' : Hp} (f : Fz a t H H') : ∀ (d : D) (v : V), DR K H d v → DR K H' d v
  | .non, v, h => h
  | .bl _, v, h => h
  | .int _, v, h => h
  | .str _, v, h => h
  | .ty _, v, h => h
  | .lst ds, v, h => by
    obtain ⟨b, vs, h1, h2, h3⟩ := h
    refine ⟨b, vs, h1, ?_, Fz.drs f ds vs h3⟩
    rcases h2 with h2 | h2
    · exact .inl (f.rd (fun _ _ z => by cases z) h2)
    · exact .inr h2
  | .tup ds, v, h => by
    obtain ⟨b, vs, h1, h2, h3⟩ := h
    refine ⟨b, vs, h1, ?_, Fz.drs f ds vs h3⟩
    rcases h2 with h2 | h2
    · exact .inl (f.rd (fun _ _ z => by cases z) h2)
    · exact .inr h2
  | .dk ks ds, v, h => by
    obtain ⟨b, vs, h1, h2, h4, h3⟩ := h
    exact ⟨b, vs, h1, f.rd (fun _ _ z => by cases z) h2, h4, Fz.drs f ds vs h3⟩
  | .dt ks ds, v, h => by
    obtain ⟨b, vs, h1, h2, h4, h3⟩ := h
    exact ⟨b, vs, h1, f.rd (fun _ _ z => by cases z) h2, h4, Fz.drs f ds vs h3⟩
  | .obj cn ns ds, v, h => by
    obtain ⟨b, C, dx, vs, h1, hn, h2, h4, h3⟩ := h
    refine ⟨b, C, dx, vs, h1, hn, ?_, h4, Fz.drs f ds vs h3⟩
    have e : b ≠ a := fun z => by
      subst z
      rcases f.at1 with q | ⟨o, q⟩ <;> rw [q] at h2 <;> cases h2
    rw [f.ne b e]; exact h2
  | .ad _, v, h => h
  | .exc _ x ns ds, v, h => by
    obtain ⟨h1, vs, h2, h4, h3⟩ := h
    refine ⟨h1, vs, ?_, h4, Fz.drs f ds vs h3⟩
    have e : x ≠ a := fun z => by
      subst z
      rcases f.at1 with q | ⟨od, q⟩ <;> rw [q] at h2 <;> cases h2
    rw [f.ne x e]; exact h2
  | .etp ds, v, h => by
    obtain ⟨b, vs, h1, h2, h3⟩ := h
    exact ⟨b, vs, h1, by
      have e : b ≠ a := fun z => by
        subst z
        rcases f.at1 with q | ⟨od, q⟩ <;> rw [q] at h2 <;> cases h2
      rw [f.ne b e]; exact h2, Fz.drs f ds vs h3⟩
  | .ptp ds, v, h => by
    obtain ⟨b, o, vs, h1, h2, h4, h3⟩ := h
    exact ⟨b, o, vs, h1, by
      have e : b ≠ a := fun z => by
        subst z
        rcases f.at1 with q | ⟨od, q⟩ <;> rw [q] at h2 <;> cases h2
      rw [f.ne b e]; exact h2, h4, Fz.drs f ds vs h3⟩
theorem Fz.drs {K : PySem.W.Frag} {a : Addr} {t : List (List Key × V)} {H H' : Hp} (f : Fz a t H H') : ∀ (ds : List D) (vs : List V), DRs K H ds vs → DRs K H' ds vs
  | [], vs, h => h
  | d :: ds, vs, h => by
    obtain ⟨v, r, h1, h2, h3⟩ := h
    exact ⟨v, r, h1, Fz.dr f d v h2, Fz.drs f ds r h3⟩
end
theorem Fz.oc {K : PySem.W.Frag} {a : Addr} {t : List (List Key × V)} {H H' : Hp} (f : Fz a t H H') : ∀ {c : OC} {o : HO}, OCR K H c o → OCR K H' c o
  | .lst _, _, ⟨vs, h1, h2⟩ => ⟨vs, h1, f.drs _ _ h2⟩
  | .dk _ _, _, ⟨vs, h1, h3, h2⟩ => ⟨vs, h1, h3, f.drs _ _ h2⟩
  | .dt _ _, _, ⟨vs, h1, h3, h2⟩ => ⟨vs, h1, h3, f.drs _ _ h2⟩
  | .fk _ _, _, ⟨vs, od, h1, h3, h2⟩ => ⟨vs, od, h1, h3, f.drs _ _ h2⟩
  | .ft _ _, _, ⟨vs, od, h1, h3, h2⟩ => ⟨vs, od, h1, h3, f.drs _ _ h2⟩
  | .ins _ _ _, _, ⟨vs, C, dx, h1, hn, h3, h2⟩ => ⟨vs, C, dx, h1, hn, h3, f.drs _ _ h2⟩
/-- the base within the loop -/
def baseF (B H0 : Hp) (a : Addr) (o : HO) : Hp := fun b => if b = a then some o else match B b with
  | some x => some x
  | none => H0 b
section
variable {K : PySem.W.Frag} {B0 B H0 H : Hp} {σ σ1 : L2.St} {ρ ρ1 : En} {a : Addr} {t : List (List Key × V)} {od : Obj}
theorem same_lock (s : Same H0 H) {o : HO} : Same (upd H0 a o) (upd H a o) := fun b u e => by
  by_cases hb : b = a
  · subst hb; rw [upd_same] at e ⊢; exact e
  · rw [upd_ne hb] at e ⊢; exact s b u e
theorem base_none {p : Addr} {o : HO} (h : baseF B H0 a o p = none) : p ≠ a ∧ B p = none := by
  unfold baseF at h
  by_cases hb : p = a
  · rw [if_pos hb] at h; cases h
  · rw [if_neg hb] at h
    refine ⟨hb, ?_⟩
    cases q : B p with
    | some x => rw [q] at h; cases h
    | none => rfl
end
section
variable {K : PySem.W.Frag} {B0 B H0 H : Hp} {σ σ1 : L2.St} {ρ ρ1 : En} {a : Addr} {o : HO}
theorem J.baseS (j : J K B0 B σ H0 H ρ) (h0 : H0 a = some o) : J K H0 (baseF B H0 a o) σ H0 H ρ := by
  have hne : ∀ p, H0 p = none → p ≠ a := fun p e z => by subst z; rw [h0] at e; cases e
  have hb : ∀ p, H0 p = none → B p = none → baseF B H0 a o p = none := fun p e1 e2 => by
    unfold baseF
    rw [if_neg (hne p e1), e2]; exact e1
  refine ⟨⟨fun _ _ e => e, j.same, fun b u e => ?_, fun b u e _ e0 => e0⟩, j.len, fun i s ov e1 e2 => ?_, j.dis⟩
  · unfold baseF at e
    by_cases hb : b = a
    · rw [if_pos hb] at e; subst hb; exact j.same _ _ (h0.trans e)
    · rw [if_neg hb] at e
      cases q : B b with
      | some x => rw [q] at e; cases e; exact j.hp.sB b _ q
      | none => rw [q] at e; exact j.same b u e
  · have q := j.sl i s ov e1 e2
    cases s with
    | no => trivial
    | sh d => exact q
    | ow c =>
      obtain ⟨p, o, f1, f2, f3, f4, f5⟩ := q
      exact ⟨p, o, f1, f2, f3, hb p f3 f4, f5⟩
    | ox cs d =>
      obtain ⟨g1, g3, g4⟩ := q
      refine ⟨g1, fun p hp => ?_, g4⟩
      obtain ⟨o, f2, f3, f4, f5⟩ := (g3 p hp).ex
      exact ⟨o, f2, f3, hb _ f3 f4, f5⟩
theorem JH.unbaseS (j : JH B0 B H0 H) (h0 : H0 a = some o) {L0 L : Hp} (g : JH H0 (baseF B H0 a o) L0 L) : JH B0 B L0 L := by
  refine ⟨j.s0.trans g.s0, g.sh, fun b u e => ?_, fun b u e nt e' => ?_⟩
  · by_cases hb : b = a
    · subst hb
      have h1 := j.sh _ _ h0
      have h2 := j.sB _ _ e
      rw [h1] at h2
      exact g.sh _ _ (g.s0 _ _ (h0.trans h2))
    · refine g.sB b u ?_
      unfold baseF
      rw [if_neg hb, e]
  · have q := j.fr b u e nt e'
    have hb : b ≠ a := fun z => by subst z; rw [h0] at q; cases q
    refine g.fr b u ?_ nt q
    unfold baseF
    rw [if_neg hb, e]
theorem J.unbaseS (j : JH B0 B H0 H) (h0 : H0 a = some o) {L0 L : Hp} (j1 : J K H0 (baseF B H0 a o) σ1 L0 L ρ1) : J K B0 B σ1 L0 L ρ1 := by
  refine ⟨j.unbaseS h0 j1.hp, j1.len, fun i s ov q1 q2 => ?_, j1.dis⟩
  have q := j1.sl i s ov q1 q2
  cases s with
  | no => trivial
  | sh d => exact q
  | ow c =>
    obtain ⟨p, o, f1, f2, f3, f4, f5⟩ := q
    exact ⟨p, o, f1, f2, f3, (base_none f4).2, f5⟩
  | ox cs d =>
    obtain ⟨g1, g3, g4⟩ := q
    refine ⟨g1, fun p hp => ?_, g4⟩
    obtain ⟨o, f2, f3, f4, f5⟩ := (g3 p hp).ex
    exact ⟨o, f2, f3, (base_none f4).2, f5⟩
end
theorem c2_notInSq {X : Cx} {p1 p2 : Int} {ks : List Sq} (hu : X.A.units + 64 < cLine) : C2 X .NotIn (.tup [.int p1, .int p2]) (dicD ks).d (.bl (!decide ((p1, p2) ∈ ks))) := ⟨_, op_notInSq (by omega), fun H0 H x y Q s r1 r2 kk => by
  obtain ⟨b, vs, rfl, f1, r⟩ := r1
  obtain ⟨u, w, rfl, e2, e3⟩ := r.two
  cases (show u = .int p1 from e2); cases (show w = .int p2 from e3)
  obtain ⟨a, rfl, h1⟩ := dr_dic r2
  exact ⟨a, b, _, kq (p1, p2), rfl, rfl, Same.rd s h1, Same.seqT s f1, by rw [tT_val]; exact kk _ H0 H (JH.refl s) rfl⟩⟩
end DL
namespace DLE
open PySem PySem.Spec PySem.Calls PyProof.Rows
/-- the pairs that have been made -/
structure Prs (P : Nat → Value → Prop) (lo : Addr) (h : Heap) (as : List Addr) : Prop where
  rise : as.Pairwise (· < ·)
  above : ∀ a ∈ as, lo < a
  at_ : ∀ (j : Nat) (a : Addr), as[j]? = some a → ∃ x tk, P j x ∧ h.get? a = some { cls := .type "tuple", data := .seq #[.int j tk, x] }
theorem Prs.there {P : Nat → Value → Prop} {lo : Addr} {h : Heap} {as : List Addr} (g : Prs P lo h as) {a : Addr} (ha : a ∈ as) : a < h.objs.size := by
  obtain ⟨j, hj⟩ := List.mem_iff_getElem?.mp ha
  obtain ⟨_, _, _, z⟩ := g.at_ j a hj
  exact Heap.lt_size z
end DLE
namespace DL
open PySem PySem.Spec PyProof.Rows L2 LiI
theorem drs_of {K : PySem.W.Frag} {H : Hp} : ∀ {ds : List D} {vs : List V}, ds.length = vs.length → (∀ (i : Nat) d v, ds[i]? = some d → vs[i]? = some v → DR K H d v) → DRs K H ds vs
  | [], [], _, _ => rfl
  | [], v :: vs, h, _ => by simp at h
  | d :: ds, [], h, _ => by simp at h
  | d :: ds, v :: vs, h, k => ⟨v, vs, rfl, k 0 d v rfl rfl, drs_of (by simpa using h) fun i d' v' h1 h2 => k (i + 1) d' v' (by simpa using h1) (by simpa using h2)⟩
end DL
namespace DL
open PySem PySem.Spec PyProof.Rows L2
abbrev ep (p : Sq) : D := .etp [.int p.1, .int p.2]
end DL
namespace DL
open PySem PySem.Spec PyProof.Rows L2
/-- alike but for a dict at a, that is locked in one -/
structure FzK (a : Addr) (t : List (Key × V)) (H H' : Hp) : Prop where
  at1 : Rd H a (.dK t)
  at2 : Rd H' a (.dK t)
  ne : ∀ b, b ≠ a → H' b = H b
theorem FzK.rd {a : Addr} {t : List (Key × V)} {H H' : Hp} (f : FzK a t H H') {b : Addr} {u : HO} (hu : ∀ o x, u ≠ .frz o x) (h : Rd H b u) : Rd H' b u := by
  by_cases e : b = a
  · subst e
    rw [Rd.uniq h f.at1 hu (fun _ _ z => by cases z)]
    exact f.at2
  · rcases h with h | ⟨o, h⟩
    · exact .inl (by rw [f.ne b e]; exact h)
    · exact .inr ⟨o, by rw [f.ne b e]; exact h⟩
mutual
theorem FzK.dr {K : PySem.W.Frag} {a : Addr} {t : List (Key × V)} {H H' : Hp} (f : FzK a t H H') : ∀ (d : D) (v : V), DR K H d v → DR K H' d v
  | .non, v, h => h
  | .bl _, v, h => h
  | .int _, v, h => h
  | .str _, v, h => h
  | .ty _, v, h => h
  | .lst ds, v, h => by
    obtain ⟨b, vs, h1, h2, h3⟩ := h
    refine ⟨b, vs, h1, ?_, FzK.drs f ds vs h3⟩
    rcases h2 with h2 | h2
    · exact .inl (f.rd (fun _ _ z => by cases z) h2)
    · exact .inr h2
  | .tup ds, v, h => by
    obtain ⟨b, vs, h1, h2, h3⟩ := h
    refine ⟨b, vs, h1, ?_, FzK.drs f ds vs h3⟩
    rcases h2 with h2 | h2
    · exact .inl (f.rd (fun _ _ z => by cases z) h2)
    · exact .inr h2
  | .dk ks ds, v, h => by
    obtain ⟨b, vs, h1, h2, h4, h3⟩ := h
    exact ⟨b, vs, h1, f.rd (fun _ _ z => by cases z) h2, h4, FzK.drs f ds vs h3⟩
  | .dt ks ds, v, h => by
    obtain ⟨b, vs, h1, h2, h4, h3⟩ := h
    exact ⟨b, vs, h1, f.rd (fun _ _ z => by cases z) h2, h4, FzK.drs f ds vs h3⟩
  | .obj cn ns ds, v, h => by
    obtain ⟨b, C, dx, vs, h1, hn, h2, h4, h3⟩ := h
    refine ⟨b, C, dx, vs, h1, hn, ?_, h4, FzK.drs f ds vs h3⟩
    have e : b ≠ a := fun z => by
      subst z
      rcases f.at1 with q | ⟨o, q⟩ <;> rw [q] at h2 <;> cases h2
    rw [f.ne b e]; exact h2
  | .ad _, v, h => h
  | .exc _ x ns ds, v, h => by
    obtain ⟨h1, vs, h2, h4, h3⟩ := h
    refine ⟨h1, vs, ?_, h4, FzK.drs f ds vs h3⟩
    have e : x ≠ a := fun z => by
      subst z
      rcases f.at1 with q | ⟨od, q⟩ <;> rw [q] at h2 <;> cases h2
    rw [f.ne x e]; exact h2
  | .etp ds, v, h => by
    obtain ⟨b, vs, h1, h2, h3⟩ := h
    exact ⟨b, vs, h1, by
      have e : b ≠ a := fun z => by
        subst z
        rcases f.at1 with q | ⟨od, q⟩ <;> rw [q] at h2 <;> cases h2
      rw [f.ne b e]; exact h2, FzK.drs f ds vs h3⟩
  | .ptp ds, v, h => by
    obtain ⟨b, o, vs, h1, h2, h4, h3⟩ := h
    exact ⟨b, o, vs, h1, by
      have e : b ≠ a := fun z => by
        subst z
        rcases f.at1 with q | ⟨od, q⟩ <;> rw [q] at h2 <;> cases h2
      rw [f.ne b e]; exact h2, h4, FzK.drs f ds vs h3⟩
theorem FzK.drs {K : PySem.W.Frag} {a : Addr} {t : List (Key × V)} {H H' : Hp} (f : FzK a t H H') : ∀ (ds : List D) (vs : List V), DRs K H ds vs → DRs K H' ds vs
  | [], vs, h => h
  | d :: ds, vs, h => by
    obtain ⟨v, r, h1, h2, h3⟩ := h
    exact ⟨v, r, h1, FzK.dr f d v h2, FzK.drs f ds r h3⟩
end
theorem FzK.oc {K : PySem.W.Frag} {a : Addr} {t : List (Key × V)} {H H' : Hp} (f : FzK a t H H') : ∀ {c : OC} {o : HO}, OCR K H c o → OCR K H' c o
  | .lst _, _, ⟨vs, h1, h2⟩ => ⟨vs, h1, f.drs _ _ h2⟩
  | .dk _ _, _, ⟨vs, h1, h3, h2⟩ => ⟨vs, h1, h3, f.drs _ _ h2⟩
  | .dt _ _, _, ⟨vs, h1, h3, h2⟩ => ⟨vs, h1, h3, f.drs _ _ h2⟩
  | .fk _ _, _, ⟨vs, od, h1, h3, h2⟩ => ⟨vs, od, h1, h3, f.drs _ _ h2⟩
  | .ft _ _, _, ⟨vs, od, h1, h3, h2⟩ => ⟨vs, od, h1, h3, f.drs _ _ h2⟩
  | .ins _ _ _, _, ⟨vs, C, dx, h1, hn, h3, h2⟩ => ⟨vs, C, dx, h1, hn, h3, f.drs _ _ h2⟩
theorem fz_lockK {a : Addr} {t : List (Key × V)} {H : Hp} {od : Obj} (h : H a = some (.dK t)) : FzK a t H (upd H a (.frz od (.dK t))) := ⟨.inl h, .inr ⟨od, upd_same⟩, fun b hb => upd_ne hb⟩
theorem fz_unlockK {a : Addr} {t : List (Key × V)} {H : Hp} {od : Obj} (h : H a = some (.frz od (.dK t))) : FzK a t H (upd H a (.dK t)) := ⟨.inr ⟨od, h⟩, .inl upd_same, fun b hb => upd_ne hb⟩
section
variable {K : PySem.W.Frag} {B0 B H0 H : Hp} {σ σ1 : L2.St} {ρ ρ1 : En} {a : Addr} {t : List (Key × V)} {od : Obj}
theorem J.lockK (j : J K B0 B σ H0 H ρ) (h0 : H0 a = some (.dK t)) : J K (upd H0 a (.frz od (.dK t))) (baseF B H0 a (.frz od (.dK t))) σ (upd H0 a (.frz od (.dK t))) (upd H a (.frz od (.dK t))) ρ := by
  have f := fz_lockK (od := od) h0
  have ha : ∀ {c : OC} {p : Addr} {o : HO}, H0 p = none → p ≠ a := fun {c p o} e z => by subst z; rw [h0] at e; cases e
  have hb : ∀ p, H0 p = none → B p = none → baseF B H0 a (.frz od (.dK t)) p = none := fun p e1 e2 => by
    unfold baseF
    rw [if_neg (fun z => by subst z; rw [h0] at e1; cases e1), e2]; exact e1
  have hne : ∀ p, H0 p = none → p ≠ a := fun p e z => by subst z; rw [h0] at e; cases e
  refine ⟨⟨fun _ _ e => e, same_lock j.same, fun b u e => ?_, fun b u e _ e0 => e0⟩, j.len, fun i s ov e1 e2 => ?_, j.dis⟩
  · unfold baseF at e
    by_cases hb : b = a
    · rw [if_pos hb] at e; subst hb; rw [upd_same]; exact e
    · rw [if_neg hb] at e
      rw [upd_ne hb]
      cases q : B b with
      | some x => rw [q] at e; cases e; exact j.hp.sB b _ q
      | none => rw [q] at e; exact j.same b u e
  · have q := j.sl i s ov e1 e2
    cases s with
    | no => trivial
    | sh d => obtain ⟨v, h1, h2⟩ := q; exact ⟨v, h1, f.dr _ _ h2⟩
    | ow c =>
      obtain ⟨p, o, f1, f2, f3, f4, f5⟩ := q
      exact ⟨p, o, f1, by rw [upd_ne (hne p f3)]; exact f2, by rw [upd_ne (hne p f3)]; exact f3, hb p f3 f4, f.oc f5⟩
    | ox cs d =>
      obtain ⟨⟨v, g1, g2⟩, g3, g4⟩ := q
      refine ⟨⟨v, g1, f.dr _ _ g2⟩, fun p hp => ?_, g4⟩
      obtain ⟨o, f2, f3, f4, f5⟩ := (g3 p hp).ex
      exact ⟨o, by rw [upd_ne (hne _ f3)]; exact f2, by rw [upd_ne (hne _ f3)]; exact f3, hb _ f3 f4, f.oc f5⟩
theorem JH.unlockK (j : JH B0 B H0 H) (h0 : H0 a = some (.dK t)) {L0 L : Hp} (g : JH (upd H0 a (.frz od (.dK t))) (baseF B H0 a (.frz od (.dK t))) L0 L) :
    L0 a = some (.frz od (.dK t)) ∧ L a = some (.frz od (.dK t)) ∧ JH B0 B (upd L0 a (.dK t)) (upd L a (.dK t)) := by
  have e0 : L0 a = some (.frz od (.dK t)) := g.s0 _ _ upd_same
  refine ⟨e0, g.sh _ _ e0, fun b u e => ?_, same_lock g.sh, fun b u e => ?_, fun b u e nt e' => ?_⟩
  · have q := j.s0 b u e
    by_cases hb : b = a
    · subst hb; rw [upd_same, ← h0]; exact q
    · rw [upd_ne hb]; exact g.s0 b u (by rw [upd_ne hb]; exact q)
  · by_cases hb : b = a
    · subst hb
      have h1 := j.sh _ _ h0
      rw [upd_same, ← h1]; exact j.sB b u e
    · rw [upd_ne hb]
      refine g.sB b u ?_
      unfold baseF
      rw [if_neg hb, e]
  · have q := j.fr b u e nt e'
    have hb : b ≠ a := fun z => by subst z; rw [h0] at q; cases q
    rw [upd_ne hb]
    refine g.fr b u ?_ nt (by rw [upd_ne hb]; exact q)
    unfold baseF
    rw [if_neg hb, e]
theorem J.unlockK (j : JH B0 B H0 H) (h0 : H0 a = some (.dK t)) {L0 L : Hp} (j1 : J K (upd H0 a (.frz od (.dK t))) (baseF B H0 a (.frz od (.dK t))) σ1 L0 L ρ1) : J K B0 B σ1 (upd L0 a (.dK t)) (upd L a (.dK t)) ρ1 := by
  obtain ⟨e0, e1, g⟩ := j.unlockK h0 j1.hp
  have f := fz_unlockK e0
  refine ⟨g, j1.len, fun i s ov q1 q2 => ?_, j1.dis⟩
  have q := j1.sl i s ov q1 q2
  cases s with
  | no => trivial
  | sh d => obtain ⟨v, h1, h2⟩ := q; exact ⟨v, h1, f.dr _ _ h2⟩
  | ow c =>
    obtain ⟨p, o, f1, f2, f3, f4, f5⟩ := q
    obtain ⟨n1, n2⟩ := base_none f4
    exact ⟨p, o, f1, by rw [upd_ne n1]; exact f2, by rw [upd_ne n1]; exact f3, n2, f.oc f5⟩
  | ox cs d =>
    obtain ⟨⟨v, g1, g2⟩, g3, g4⟩ := q
    refine ⟨⟨v, g1, f.dr _ _ g2⟩, fun p hp => ?_, g4⟩
    obtain ⟨o, f2, f3, f4, f5⟩ := (g3 p hp).ex
    obtain ⟨n1, n2⟩ := base_none f4
    exact ⟨o, by rw [upd_ne n1]; exact f2, by rw [upd_ne n1]; exact f3, n2, f.oc f5⟩
end
section
variable {X : Cx} {ρ ρ' : En} {Φ : Out → Prop} {pos : Pos}
theorem keyK_turn {K : PySem.W.Frag} {ks : List Key} {vs : List V} {n : Nat} {k kk : Key} {vv v : V} {L0 L : Hp} (h : ks[n]? = some k) (y1 : (ks.zip vs)[n]? = some (kk, vv)) (y2 : v = kV kk) (g : JH L0 L L0 L) : ∃ L1, JH L0 L L1 L ∧ DR K L1 (kD k) v := by
  obtain ⟨h1, h2⟩ := List.getElem?_zip_eq_some.mp y1
  rw [h] at h1; cases h1
  subst y2
  refine ⟨L0, g, ?_⟩
  cases kk <;> rfl
end
theorem JH.unlockEK {H0 H : Hp} {a : Addr} {t : List (Key × V)} {od : Obj} (h0 : H0 a = some (.dK t)) (hH : H a = some (.dK t)) {L0 L : Hp} (g : JH (upd H0 a (.frz od (.dK t))) (upd H a (.frz od (.dK t))) L0 L) :
    L0 a = some (.frz od (.dK t)) ∧ L a = some (.frz od (.dK t)) ∧ JH H0 H (upd L0 a (.dK t)) (upd L a (.dK t)) := by
  have e0 : L0 a = some (.frz od (.dK t)) := g.s0 _ _ upd_same
  refine ⟨e0, g.sh _ _ e0, fun b u e => ?_, same_lock g.sh, fun b u e => ?_, fun b u e nt e' => ?_⟩
  · by_cases hb : b = a
    · subst hb; rw [upd_same, ← h0]; exact e
    · rw [upd_ne hb]; exact g.s0 b u (by rw [upd_ne hb]; exact e)
  · by_cases hb : b = a
    · subst hb; rw [upd_same, ← hH]; exact e
    · rw [upd_ne hb]; exact g.sB b u (by rw [upd_ne hb]; exact e)
  · have hb : b ≠ a := fun z => by subst z; rw [h0] at e'; cases e'
    rw [upd_ne hb]
    exact g.fr b u (by rw [upd_ne hb]; exact e) nt (by rw [upd_ne hb]; exact e')
end DL
namespace DL
open PySem PySem.Spec PyProof.Rows L2
section
variable {X : Cx} {ρ : En} {o e f : Expr} {pos apos : Pos} {d d2 : D} {Φ : Out → Prop}
theorem drs_snoc_last {K : PySem.W.Frag} {H : Hp} : ∀ {ds : List D} {d : D} {vs : List V}, DRs K H (ds ++ [d]) vs → ∃ ws v, vs = ws ++ [v] ∧ DRs K H ds ws ∧ DR K H d v
  | [], d, vs, h => by
    obtain ⟨v, r, rfl, h1, h2⟩ := h
    cases (show r = [] from h2)
    exact ⟨[], v, rfl, rfl, h1⟩
  | x :: ds, d, vs, h => by
    obtain ⟨v, r, rfl, h1, h2⟩ := h
    obtain ⟨ws, u, rfl, h3, h4⟩ := drs_snoc_last h2
    exact ⟨v :: ws, u, rfl, ⟨v, ws, rfl, h1, h3⟩, h4⟩
end
end DL
namespace DZ
open PySem
open PySem.Sem (wp)
def HS (b : Bool) (h : Heap) (l : Addr) (xs : Array Value) : Prop := match b with | true => h.IsList l xs | false => h.IsTuple l xs
def HI (b : Bool) (h : Heap) (i l : Addr) (k : Nat) : Prop := match b with | true => h.IsListIter i l k | false => h.IsTupleIter i l k
theorem HS.at {b : Bool} {h h' : Heap} {l : Addr} {xs : Array Value} (x : HS b h l xs) (e : ∀ o, h.get? l = some o → h'.get? l = some o) : HS b h' l xs := by
  cases b
  · exact Heap.IsTuple.at x e
  · exact Heap.IsList.at x e
theorem HI.at {b : Bool} {h h' : Heap} {i l : Addr} {k : Nat} (x : HI b h i l k) (e : ∀ o, h.get? i = some o → h'.get? i = some o) : HI b h' i l k := by
  cases b
  · exact Heap.IsTupleIter.at x e
  · exact Heap.IsListIter.at x e
theorem HI.lt {b : Bool} {h : Heap} {i l : Addr} {k : Nat} (x : HI b h i l k) : i < h.objs.size := by
  cases b
  · obtain ⟨_, e, _⟩ := (x : h.IsTupleIter i l k); exact Heap.lt_size e
  · obtain ⟨_, e, _⟩ := (x : h.IsListIter i l k); exact Heap.lt_size e
theorem HI.obj {b : Bool} {h : Heap} {i l : Addr} {k : Nat} (x : HI b h i l k) : ∃ o, h.get? i = some o ∧ ∀ v, o.data ≠ .seq v := by
  cases b
  · obtain ⟨o, e, _, d⟩ := (x : h.IsTupleIter i l k); exact ⟨o, e, fun v q => by rw [d] at q; cases q⟩
  · obtain ⟨o, e, _, d⟩ := (x : h.IsListIter i l k); exact ⟨o, e, fun v q => by rw [d] at q; cases q⟩
end DZ
namespace DL
open PySem PySem.Spec PyProof.Rows L2
def PrD (K : PySem.W.Frag) (H : Hp) : List (Key × D) → List (V × V) → Prop
  | [], ps => ps = []
  | (k, d) :: r, ps => ∃ v t, ps = (kV k, v) :: t ∧ DR K H d v ∧ PrD K H r t
theorem PrD.mono {K : PySem.W.Frag} {H H' : Hp} (s : Same H H') : ∀ {kds : List (Key × D)} {ps : List (V × V)}, PrD K H kds ps → PrD K H' kds ps
  | [], ps, h => h
  | (k, d) :: r, ps, h => by
    obtain ⟨v, t, rfl, h1, h2⟩ := h
    exact ⟨v, t, rfl, DR.mono s _ _ h1, PrD.mono s h2⟩
theorem PrD.vals {K : PySem.W.Frag} {H : Hp} : ∀ {kds : List (Key × D)} {ps : List (V × V)}, PrD K H kds ps → ∃ vs, ps = ((kds.map (·.1)).zip vs).map (fun kv => (kV kv.1, kv.2)) ∧ (kds.map (·.1)).length = vs.length ∧ DRs K H (kds.map (·.2)) vs
  | [], ps, h => ⟨[], h, rfl, rfl⟩
  | (k, d) :: r, ps, h => by
    obtain ⟨v, t, rfl, h1, h2⟩ := h
    obtain ⟨vs, rfl, hl, hr⟩ := PrD.vals h2
    exact ⟨v :: vs, rfl, by simpa using hl, v, vs, rfl, h1, hr⟩
section
variable {X : Cx} {ρ : En} {pos : Pos}
/-- the pairs of a display -/
def prTs (X : Cx) : List (Option Expr) → List Expr → List (TE × TE)
  | some k :: ks, v :: vs => (RE X k, RE X v) :: prTs X ks vs
  | _, _ => []
structure PD (X : Cx) (pos : Pos) (ρ : En) (keys : List (Option Expr)) (values : List Expr) (kds : List (Key × D)) : Prop where
  pp : PPs X pos keys values (prTs X keys values)
  run : ∀ B0 B σ H0 H (Q : List (V × V) → Hp → Prop), J X.K B0 B σ H0 H ρ → (∀ ps H0' H', JH H0 H H0' H' → PrD X.K H0' kds ps → Q ps H') → tPairs (prTs X keys values) σ H Q
  all : keys.all (·.isSome) = true
  len : keys.length = values.length
  few : keys.length = kds.length
theorem pd_nil : PD X pos ρ [] [] [] := ⟨pps_nil, fun B0 B σ H0 H Q j k => k [] H0 H (JH.refl j.same) rfl, rfl, rfl, rfl⟩
theorem pd_cons {a b : Expr} {keys : List (Option Expr)} {values : List Expr} {kds : List (Key × D)} {k0 : Key} {d : D} (hk : ED X ρ a (kD k0)) (hv : ED X ρ b d) (r : PD X pos ρ keys values kds) : PD X pos ρ (some a :: keys) (b :: values) ((k0, d) :: kds) := by
  refine ⟨pps_cons pe_star pe_star r.pp, fun B0 B σ H0 H Q j k => ?_, by rw [List.all_cons, r.all]; rfl, by rw [List.length_cons, List.length_cons, r.len], by rw [List.length_cons, List.length_cons, r.few]⟩
  refine hk B0 B σ H0 H _ j fun x G0 G g1 r1 => hv B0 B σ G0 G _ (j.grow g1) fun y L0 L g2 r2 => r.run B0 B σ L0 L _ ((j.grow g1).grow g2) fun ps M0 M g3 r3 => ?_
  rw [kD_val r1]
  exact k _ M0 M ((g1.trans g2).trans g3) ⟨y, ps, rfl, DR.mono g3.s0 _ _ r2, r3⟩
theorem mergeK_fresh : ∀ (ks : List Key) (vs : List V) (js : List Key) (us : List V), js.length = us.length → ks.length = vs.length → (js ++ ks).Nodup → mergeK (js.zip us) (ks.zip vs) = (js ++ ks).zip (us ++ vs)
  | [], vs, js, us, _, hl, _ => by
    have : vs = [] := List.length_eq_zero_iff.mp hl.symm
    subst this
    rw [List.append_nil, List.append_nil]; rfl
  | k :: ks, [], js, us, _, hl, _ => by simp at hl
  | k :: ks, v :: vs, js, us, hj, hl, nd => by
    have nk : k ∉ js := fun m => (List.nodup_append.mp nd).2.2 k m k List.mem_cons_self rfl
    show mergeK (putK (js.zip us) k v) (ks.zip vs) = _
    rw [putK_zip hj nk, mergeK_fresh ks vs (js ++ [k]) (us ++ [v]) (by simp [hj]) (by simpa using hl) (by rw [List.append_assoc]; exact nd)]
    rw [List.append_assoc, List.append_assoc]; rfl
/-- {k: e, ..} -/
theorem eo_disp {keys : List (Option Expr)} {values : List Expr} {kds : List (Key × D)} (h : PD X pos ρ keys values kds) (nd : (kds.map (·.1)).Nodup) (h0 : keys ≠ [] := by simp) (h15 : keys.length ≤ 15 := by decide) : EO X ρ (.Dict keys values pos) (.dk (kds.map (·.1)) (kds.map (·.2))) := fun B0 B σ H0 H Q j k => by
  refine RE.of (pe_disp h.pp h.all h.len h0 h15) fun p hp => ?_
  have g0 : JH H0 H H0 (upd H p (.dK [])) := JH.own j.same hp
  have p0 : H0 p = none := j.same.free hp
  refine h.run B0 B σ H0 _ _ (j.grow g0) fun ps G0 G g r => ?_
  obtain ⟨vs, rfl, hl, hr⟩ := r.vals
  have e1 : G p = some (.dK []) := g.sB _ _ upd_same
  have e0 : G0 p = none := g.fr p _ upd_same trivial p0
  refine ⟨e1, (kds.map (·.1)).zip vs, rfl, by rw [List.length_zip, List.length_map]; have := h.few; omega, ?_⟩
  have em : mergeK [] ((kds.map (·.1)).zip vs) = (kds.map (·.1)).zip vs := by
    have := mergeK_fresh (kds.map (·.1)) vs [] [] rfl hl (by simpa using nd)
    simpa using this
  rw [em]
  have gg : JH H0 H G0 (upd G p (.dK ((kds.map (·.1)).zip vs))) := by
    refine ⟨g.s0, fun b u e => upd_keep (g.sh b u e) (fun z => by subst z; rw [e0] at e; cases e), fun b u e => upd_keep (g.sB b u (upd_keep e (ne_of_none e hp))) (ne_of_none e hp), fun b u e nt e' => g.fr b u (upd_keep e (ne_of_none e hp)) nt e'⟩
  exact k p _ G0 _ gg upd_same e0 hp ⟨vs, rfl, hl, hr⟩
end
end DL
namespace DL
open PySem PySem.Spec PyProof.Rows L2
local instance (priority := 2000) keyBEq25 : BEq Key := instBEqOfDecidableEq
section
variable {X : Cx} {ρ : En} {pos : Pos}
/-- a dict of the module, its keys texts: what stands at one of them -/
structure KdL (K : PySem.W.Frag) (w : World) (mg : Str → Option Value) (x z : Str) (d : D) : Prop where
  ex : ∃ p v, mg x = some (.ref p) ∧ KDct K w p z v ∧ ∀ H, DR K H d v
end
end DL
namespace DL
open PySem PySem.Spec PyProof.Rows L2
/-- a def at an address -/
structure FnA (P : Program) (w : World) (K : PySem.W.Frag) (mg : Str → Option Value) (base : Heap) (f : Addr) (k : Nat) (R : List D → D → Prop) : Prop where
  ex : ∃ fd ps, FnOk P w K mg base CX0 k f fd ps (spR K R) ∧ PySem.W.keepIn K (.ref f) = true ∧ Binds K fd ps []
/-- the dict x of the module has the key z -/
structure KdI (K : PySem.W.Frag) (w : World) (mg : Str → Option Value) (x z : Str) : Prop where
  ex : ∃ p es n u, mg x = some (.ref p) ∧ KDict K w p es n ∧ PySem.W.nsIn K p z = some (some u)
end DL
namespace DL
open PySem PySem.Spec PyProof.Rows L2
/-- the dict x of the module gives for the text z the def g of the module -/
structure KdR (K : PySem.W.Frag) (w : World) (mg : Str → Option Value) (x z g : Str) : Prop where
  ex : ∃ f, mg g = some (.ref f) ∧ KdL K w mg x z (.ad f)
  has : KdI K w mg x z
theorem KdR.fn {P : Program} {w : World} {K : PySem.W.Frag} {mg : Str → Option Value} {base : Heap} {x z g : Str} {k : Nat} {R : List D → D → Prop} (h : KdR K w mg x z g) (G : Fn P w K mg base g k R) : ∃ f, KdL K w mg x z (.ad f) ∧ FnA P w K mg base f k R := by
  obtain ⟨f, h1, h2⟩ := h.ex
  obtain ⟨f', fd, ps, F, hm, hk, hb⟩ := G.ex
  have e := h1.symm.trans hm
  cases e
  exact ⟨f, h2, fd, ps, F, hk, hb⟩
end DL
namespace DL
open PySem PySem.Spec PyProof.Rows L2
theorem J.mores {K : PySem.W.Frag} {B0 B H0 H H0' H' : Hp} {σ : L2.St} {ρ : En} (j : J K B0 B σ H0 H ρ) (g : JH H0 H H0' H') {i : Nat} {cs cs2 : Cs} {d : D} (h : ρ[i]? = some (.ox cs d)) (hc : ∀ p ∈ cs2, CellR K H H0' H' p.1 p.2) (nd : (pl cs2).Nodup) : J K B0 B σ H0' H' (ρ.set i (.ox (cs ++ cs2) d)) := by
  obtain ⟨ov, e1, f1, f2, f3⟩ := (j.grow g).get h
  have nin : ∀ a ∈ pl cs2, ∀ k s' ov', ρ[k]? = some s' → σ[k]? = some ov' → ¬ Owns s' ov' a := fun a ha k s' ov' h1 h2 w => by
    obtain ⟨p, hp, rfl⟩ := List.mem_map.mp ha
    obtain ⟨_, _, _, q3, _⟩ := (hc p hp).ex
    obtain ⟨o, e, _⟩ := j.own h1 h2 w
    rw [q3] at e; cases e
  refine (j.grow g).setSl (s := .ox (cs ++ cs2) d) e1 ⟨f1, fun p hp => ?_, ?_⟩ fun b w k s' ov' ne g1 g2 w2 => ?_
  · rcases List.mem_append.mp hp with hp | hp
    · exact f2 p hp
    · obtain ⟨o, q1, q2, q3, q4⟩ := (hc p hp).ex
      exact ⟨o, q1, q2, j.hp.sB.free q3, q4⟩
  · rw [List.map_append, List.nodup_append]
    refine ⟨f3, nd, fun x hx y hy e => ?_⟩
    subst e
    exact nin _ hy i _ ov h e1 hx
  · have w' : b ∈ cs.map (·.1) ∨ b ∈ pl cs2 := by
      have w0 : b ∈ (cs ++ cs2).map (·.1) := w
      rw [List.map_append, List.mem_append] at w0
      exact w0
    rcases w' with w' | w'
    · exact (j.grow g).sub h e1 (fun a q => q) b w' k s' ov' ne g1 g2 w2
    · exact nin b w' k s' ov' g1 g2 w2
end DL
namespace DL
open PySem PySem.Spec PyProof.Rows L2
section
variable {X : Cx} {ρ : En} {o e : Expr} {d : D} {pos : Pos}
/-- d[k], d a dict at a told place -/
theorem ed_dixI (i : Nat) {p : Addr} {cs : Cs} {d0 : D} {ks : List Key} {ds : List D} {k0 : Key} (hu : X.A.units + 64 < cLine) (hi : ρ[i]? = some (.ox cs d0)) (hm : (p, OC.dk ks ds) ∈ cs) (ho : ED X ρ o (.ad p)) (he : ED X ρ e (kD k0)) (h : lookK ks ds k0 = some d) (hs : NoSl e := by exact fun _ _ => rfl) : ED X ρ (.Subscript o e pos) d := fun B0 B σ H0 H Q j kk => by
  refine RE.of (pe_dget (by omega) pe_star pe_star hs) (ho B0 B σ H0 H _ j fun x G0 G g r => ?_)
  refine he B0 B σ G0 G _ (j.grow g) fun y L0 L g2 r2 => ?_
  cases (show x = .ref p from r)
  obtain ⟨o1, h1, h2, h3, vs, rfl, h4, h5⟩ := ((j.grow g).grow g2).cell hi hm
  rw [kD_val r2]
  obtain ⟨v, e1, e2⟩ := lookK_val h5 h
  exact ⟨p, v, rfl, .inl ⟨_, k0, .inl h1, rfl, e1.symm⟩, kk v L0 L (g.trans g2) e2⟩
end
end DL
namespace DL
open PySem PySem.Spec PyProof.Rows L2
/-- where a tuple stands, and its items -/
abbrev KRow := Addr × List Key
section
variable {P : Program} {w : World} {A : Around} {E : Value → Shared → Prop} {s : Shared}
abbrev IsK (P : Program) (w : World) (h : Heap) (k : List Key) (a : Addr) : Prop := IsTupleKey (mixKind P w) h k a
def hsK (P : Program) (w : World) (p : KRow) : Int := tupleKeyHash (mixKind P w) p.2
def enK (P : Program) (w : World) (p : KRow) : Int × Value := (hsK P w p, Value.ref p.1)
theorem items_scan {k : List Key} {vs : List Value} (h : ItemsAre (mixKind P w) k vs) : ∀ v ∈ vs, v.scannable = true := by
  induction h with
  | nil => exact fun v hv => by cases hv
  | cons h1 _ ih =>
    intro v hv
    rcases List.mem_cons.mp hv with e | e
    · rw [e]
      rcases keyIs_shape h1 with ⟨i, t, _, e2⟩ | ⟨x, t, _, e2⟩ <;> rw [e2] <;> rfl
    · exact ih v e
theorem scan_noClass {n : Nat} {v : Value} (h : v.scannable = true) : ofAClassStatement n v = pure false := by
  cases v <;> first | (cases h; done) | (cases n <;> rfl)
theorem scan_hash {n : Nat} {v : Value} (h : v.scannable = true) : ∃ b, hashByValue n v = pure b := by
  cases v <;> first | (cases h; done) | (cases n <;> exact ⟨_, rfl⟩)
theorem noClass_tup {k : List Key} {b : Addr} {Q : Bool → Shared → Prop} (x : IsK P w s.heap k b) (q : Q false s) : wpAny (model P w) A (ofAClassStatement 8 (.ref b)) Q E s := by
  have ty := x.typeIs
  obtain ⟨o, its, n, e, _, hd, hi⟩ := x
  unfold ofAClassStatement
  refine wpAny_bind (wpAny_typeOf ty ?_)
  dsimp only
  have t0 : (("tuple" : String) == "tuple") = true := by decide
  simp only [t0, if_true, Bool.not_true, Bool.false_eq_true, if_false]
  refine wpAny_bind (wpAny_pure ?_)
  simp only [Bool.not_true, Bool.false_eq_true, if_false]
  refine wpAny_bind (?_ : wpAny _ _ (seqItems? (.ref b)) _ _ s)
  refine wpAny_seqItems e hd ?_
  dsimp only
  refine wpAny_bind (?_ : wpAny _ _ (forIn its _ _) _ _ s)
  rw [← Array.forIn_toList]
  refine wpAny_forIn_list _ (fun left r s' => (∀ v ∈ left, v.scannable = true) ∧ r.1 = none ∧ s' = s) _ (fun v left r s' h => ?_) (fun r s' h => ?_) _ _ ⟨items_scan hi, rfl, rfl⟩
  · obtain ⟨h1, h2, h3⟩ := h
    rw [scan_noClass (h1 v (by simp))]
    refine wpAny_bind (wpAny_pure ?_)
    simp only [Bool.false_eq_true, if_false]
    exact wpAny_pure ⟨fun u hu => h1 u (by simp [hu]), rfl, h3⟩
  · obtain ⟨r1, r2⟩ := r
    obtain ⟨_, h2, h3⟩ := h
    cases (show r1 = none from h2)
    rw [h3]
    exact wpAny_pure q
theorem hash_tup {k : List Key} {b : Addr} {Q : Bool → Shared → Prop} (x : IsK P w s.heap k b) (q : ∀ r, Q r s) : wpAny (model P w) A (hashByValue 8 (.ref b)) Q E s := by
  have ty := x.typeIs
  obtain ⟨o, its, n, e, _, hd, hi⟩ := x
  unfold hashByValue
  refine wpAny_bind (wpAny_specialOf ty F.slot_tuple_hash.lookup ?_)
  refine wpAny_bind (?_ : wpAny _ _ (seqItems? (.ref b)) _ _ s)
  refine wpAny_seqItems e hd ?_
  refine wpAny_bind (?_ : wpAny _ _ (forIn its _ _) _ _ s)
  rw [← Array.forIn_toList]
  refine wpAny_forIn_list _ (fun left r s' => (∀ v ∈ left, v.scannable = true) ∧ r.1 = none ∧ s' = s) _ (fun v left r s' h => ?_) (fun r s' h => ?_) _ _ ⟨items_scan hi, rfl, rfl⟩
  · obtain ⟨h1, h2, h3⟩ := h
    obtain ⟨c, hc⟩ := scan_hash (n := 7) (h1 v (by simp))
    rw [hc]
    refine wpAny_bind (wpAny_pure ?_)
    cases c with
    | true =>
      simp only [Bool.not_true, Bool.false_eq_true, if_false]
      exact wpAny_pure ⟨fun u hu => h1 u (by simp [hu]), rfl, h3⟩
    | false =>
      simp only [Bool.not_false, if_true]
      rw [h3]
      exact wpAny_pure (wpAny_pure (q false))
  · obtain ⟨r1, r2⟩ := r
    obtain ⟨_, h2, h3⟩ := h
    cases (show r1 = none from h2)
    rw [h3]
    exact wpAny_pure (q true)
/-- looking for a tuple among tuples shows nothing -/
theorem unseen_tup {k : List Key} {b : Addr} {ys : List Value} {Q : Bool → Shared → Prop} (x : IsK P w s.heap k b) (hy : ∀ y ∈ ys, ∃ (p : KRow), y = .ref p.1 ∧ IsK P w s.heap p.2 p.1) (q : Q false s) :
    wpAny (model P w) A (searchCouldBeSeen (.ref b) ys) Q E s := by
  unfold searchCouldBeSeen
  refine wpAny_bind (wpAny_forIn_list _ (fun left r s' => (∀ y ∈ left, ∃ (p : KRow), y = .ref p.1 ∧ IsK P w s.heap p.2 p.1) ∧ r.1 = none ∧ s' = s) _ (fun v left r s' h => ?_) (fun r s' h => ?_) _ _ ⟨hy, rfl, rfl⟩)
  · obtain ⟨h1, h2, h3⟩ := h
    obtain ⟨p, e, hp⟩ := h1 v (by simp)
    have more : (∀ y ∈ left, ∃ (p : KRow), y = .ref p.1 ∧ IsK P w s.heap p.2 p.1) := fun u hu => h1 u (by simp [hu])
    rw [h3, e]
    dsimp only
    by_cases same : (b == p.1 || (carriedByValue (.ref b) && carriedByValue (.ref p.1))) = true
    · exact wp_if_pos same (wpAny_pure ⟨more, rfl, rfl⟩)
    refine wp_if_neg same (wpAny_bind (wpAny_eqIsQuiet_tuple x ?_))
    simp only [Bool.not_true, Bool.false_eq_true, if_false]
    refine wpAny_bind (wpAny_eqIsQuiet_tuple hp ?_)
    simp only [Bool.not_true, Bool.false_eq_true, if_false]
    refine wpAny_bind (noClass_tup x ?_)
    simp only [Bool.false_eq_true, if_false]
    refine wpAny_bind (noClass_tup hp ?_)
    simp only [Bool.false_eq_true, if_false]
    exact wpAny_pure ⟨more, rfl, rfl⟩
  · obtain ⟨r1, r2⟩ := r
    obtain ⟨_, h2, h3⟩ := h
    cases (show r1 = none from h2)
    rw [h3]
    exact wpAny_pure q
/-- at a stands a set of these tuples, in the order of its table -/
structure TSet (P : Program) (w : World) (h : Heap) (a : Addr) (L : List KRow) (es : Array (Int × Value)) (ep : Nat) (t : SetTable) : Prop where
  here : ∃ o, h.get? a = some o ∧ o.ExactSet ∧ o.data = .set es ep t
  ents : es.toList = L.map (enK P w)
  tabl : TabOk t (L.map (hsK P w))
  once : (L.map Prod.snd).Nodup
  led : w.params.followText "set-order" = true ∨ t.led = true
  room : L.length * 5 < t.mask * 3
  few : L.length < 64
def KeysAt (P : Program) (w : World) (h : Heap) (L : List KRow) : Prop := ∀ p ∈ L, IsK P w h p.2 p.1
variable {a : Addr} {L : List KRow} {es : Array (Int × Value)} {ep : Nat} {t : SetTable}
theorem ents_size (h : es.toList = L.map (enK P w)) : es.size = L.length := by
  rw [← Array.length_toList, h, List.length_map]
theorem ents_get (h : es.toList = L.map (enK P w)) {i : Nat} {p : KRow} (e : L[i]? = some p) : es[i]? = some (enK P w p) := by
  rw [← Array.getElem?_toList, h, List.getElem?_map, e]; rfl
theorem tab_size {t : SetTable} {L : List KRow} (T : TabOk t (L.map (hsK P w))) : t.place.size = L.length := by
  have := T.sz
  rw [List.length_map] at this
  exact this
theorem fits_of {t : SetTable} {n : Nat} (h1 : t.place.size = n) (h2 : t.dummies = #[]) (h3 : n ≤ t.mask) : t.fits n = true := by
  unfold SetTable.fits SetTable.fill
  rw [h2, Bool.and_eq_true, beq_iff_eq, decide_eq_true_eq]
  exact ⟨h1, by simp; omega⟩
theorem TSet.fits (T : TSet P w s.heap a L es ep t) : t.fits es.size = true := by
  have h1 := T.room
  rw [ents_size T.ents]
  exact fits_of (tab_size T.tabl) T.tabl.dm (by omega)
theorem TSet.odd (T : TSet P w s.heap a L es ep t) : ¬ t.gaveWay = true := by
  unfold SetTable.gaveWay
  rw [mask_odd T.tabl.mok]
  simp
theorem nth_dummy (m : Nat) : ∀ (n : Nat) (p : SetTable.Probe), p.dummy = none → (nth m p n).dummy = none
  | 0, _, h => h
  | n + 1, p, h => nth_dummy m n (adv m p) (by unfold adv; split <;> exact h)
/-- the c-th place that is asked for a hash -/
abbrev prb (m : Nat) (h : Int) (c : Nat) : SetTable.Probe := nth m (runAt m (SetTable.bits h % (m + 1)) (SetTable.bits h)) c
theorem prb_add (m : Nat) (h : Int) (c q : Nat) : nth m (prb m h c) q = prb m h (c + q) := (nth_add m c _ q).symm
/-- from the c-th place on: the tuple is found, or the first empty place -/
theorem TSet.look (T : TSet P w s.heap a L es ep t) (KA : KeysAt P w s.heap L) {x : Addr} {k : List Key} (hx : IsK P w s.heap k x) (hu : A.units < cLine) {N : Nat} (hN : N < 10 * SetTable.turns t.mask) (free : way t.mask (hsK P w (x, k)) N ∉ t.place.toList)
    (full : ∀ c, c < N → way t.mask (hsK P w (x, k)) c ∈ t.place.toList) {Q : SetFound → Shared → Prop} (yes : k ∈ L.map Prod.snd → Q (.there none) s) (no : k ∉ L.map Prod.snd → Q (.free (way t.mask (hsK P w (x, k)) N) false) s) :
    ∀ (f c : Nat) (st : Option SetTable.Probe), c ≤ N → N < f + c → st.getD (t.probeStart (hsK P w (x, k))) = prb t.mask (hsK P w (x, k)) c →
      (∀ (i : Nat) (p : KRow), L[i]? = some p → p.2 = k → ∃ c', t.place.toList[i]? = some (way t.mask (hsK P w (x, k)) c') ∧ c ≤ c' ∧ c' < N) →
      wpAny (model P w) A (setSearchFrom a (.ref x) (hsK P w (x, k)) true f st) Q E s := by
  obtain ⟨h, hh⟩ : ∃ h, h = hsK P w (x, k) := ⟨_, rfl⟩
  rw [← hh] at free full no ⊢
  obtain ⟨o, ho, hex, hd⟩ := T.here
  have hash : ∀ {i : Nat} {p : KRow}, L[i]? = some p → (es[i]?.map (·.1)).getD 0 = hsK P w p := fun e => by
    rw [ents_get T.ents e]; rfl
  intro f
  induction f with
  | zero => exact fun c st h1 h2 => absurd h2 (by omega)
  | succ f ih =>
    intro c st hc hf hst back
    rw [setSearchFrom_succ]
    refine wpAny_bind (wpAny_setState_of ho hd T.fits ?_)
    dsimp only
    refine wp_if_neg T.odd ?_
    have pj : ∀ q, (nth t.mask (prb t.mask h c) q).j = way t.mask h (c + q) := fun q => by rw [prb_add]
    have asked := go_spec t T.tabl.ris T.tabl.dm (fun i => (es[i]?.map (·.1)).getD 0) h (10 * SetTable.turns t.mask) (N - c) (prb t.mask h c) (nth_dummy _ _ _ rfl) (by omega) (fun q hq => by rw [pj]; exact full _ (by omega)) (by rw [pj, Nat.add_sub_cancel' hc]; exact free)
    rcases asked with ⟨q, i, g1, g2, g3, g4, g5⟩ | ⟨g4, g5⟩
    · have met : t.probe (fun i => (es[i]?.map (·.1)).getD 0) h (st.getD (t.probeStart h)) = some (.candidate (way t.mask h (c + q)) i (prb t.mask h (c + (q + 1)))) := by
        rw [hst, ← pj, ← prb_add]; exact g5
      rw [met]
      dsimp only
      rw [pj] at g2
      obtain ⟨p, hp⟩ : ∃ p, L[i]? = some p := by
        have l1 := (List.getElem?_eq_some_iff.mp g2).1
        rw [Array.length_toList, tab_size T.tabl] at l1
        exact ⟨L[i], List.getElem?_eq_getElem l1⟩
      have hm := List.mem_of_getElem? hp
      have go : wpAny (model P w) A (searchRest a (.ref x) h true f es t (way t.mask h (c + q)) i (prb t.mask h (c + (q + 1)))) Q E s := by
        unfold searchRest
        rw [ents_get T.ents hp]
        dsimp only [enK]
        refine wpAny_bind (wpAny_holding (wpAny_eqBool_tuple hu (KA p hm) hx ?_))
        refine wpAny_bind (wpAny_setState_of ho hd T.fits ?_)
        dsimp only
        by_cases e : p.2 = k
        · exact wp_if_pos (by simp [e]) (wpAny_pure (yes (List.mem_map.mpr ⟨p, hm, e⟩)))
        refine wp_if_neg (by simp [e]) ?_
        rw [sameMem]
        dsimp only
        have live := slot_live T.tabl.ris g2
        simp only [if_true, live, ents_get T.ents hp, enK]
        refine wpAny_bind (wpAny_isSame_ref_self (wpAny_bind (wpAny_pure ?_)))
        simp only [if_true]
        refine wp_if_neg (by simp [e]) (ih (c + (q + 1)) _ (by omega) (by omega) rfl fun i0 p0 e0 k0 => ?_)
        obtain ⟨c', b1, b2, b3⟩ := back i0 p0 e0 k0
        refine ⟨c', b1, ?_, b3⟩
        rcases Nat.lt_trichotomy c' (c + q) with z | z | z
        · refine absurd ?_ (g4 (c' - c) i0 (by omega) (by rw [pj, Nat.add_sub_cancel' b2]; exact b1))
          rw [hh, hash e0]
          unfold hsK
          rw [k0]
        · rw [z] at b1
          have l2 := slot_live T.tabl.ris b1
          rw [live] at l2
          cases l2
          rw [hp] at e0
          cases e0
          exact absurd k0 e
        · omega
      by_cases hl : t.led = true
      · exact wp_if_neg (by simp [hl]) go
      refine wp_if_pos (by simp [hl]) (wpAny_bind (unseen_tup hx (fun y hy => ?_) (wp_if_neg (by decide) go)))
      obtain ⟨e, he, rfl⟩ := List.mem_map.mp hy
      have he2 : e ∈ es.toList := by
        have : e ∈ es ∧ e.1 = h := by simpa using he
        simpa using this.1
      rw [T.ents] at he2
      obtain ⟨p2, m2, rfl⟩ := List.mem_map.mp he2
      exact ⟨p2, rfl, KA p2 m2⟩
    · have met : t.probe (fun i => (es[i]?.map (·.1)).getD 0) h (st.getD (t.probeStart h)) = some (.empty (way t.mask h N) none) := by
        rw [hst]
        have := g5
        rw [pj, Nat.add_sub_cancel' hc] at this
        exact this
      rw [met]
      dsimp only
      refine wpAny_pure (no fun hm => ?_)
      obtain ⟨p0, m0, k0⟩ := List.mem_map.mp hm
      obtain ⟨i0, e0⟩ := List.getElem?_of_mem m0
      obtain ⟨c', b1, b2, b3⟩ := back i0 p0 e0 k0
      refine absurd ?_ (g4 (c' - c) i0 (by omega) (by rw [pj, Nat.add_sub_cancel' b2]; exact b1))
      rw [hh, hash e0]
      unfold hsK
      rw [k0]
theorem TSet.search (T : TSet P w s.heap a L es ep t) (KA : KeysAt P w s.heap L) {x : Addr} {k : List Key} (hx : IsK P w s.heap k x) (hu : A.units < cLine) {Q : SetFound → Shared → Prop} (yes : k ∈ L.map Prod.snd → Q (.there none) s)
    (no : ∀ N, k ∉ L.map Prod.snd → way t.mask (hsK P w (x, k)) N ∉ t.place.toList → (∀ c, c < N → way t.mask (hsK P w (x, k)) c ∈ t.place.toList) → Q (.free (way t.mask (hsK P w (x, k)) N) false) s) : wpAny (model P w) A (setSearch a (.ref x) (hsK P w (x, k)) true) Q E s := by
  have hr := T.room
  obtain ⟨N, f1, f2, f3⟩ := T.tabl.first (by rw [List.length_map]; omega) (hsK P w (x, k))
  have small : 10 * SetTable.turns t.mask < 99999 := by
    unfold SetTable.turns
    rcases T.tabl.mok with e | e | e <;> rw [e] <;> omega
  unfold setSearch
  refine T.look KA hx hu f1 f2 f3 yes (fun h => no N h f2 f3) 100000 0 none (Nat.zero_le _) (by omega) rfl fun i p e hk => ?_
  have e2 : (L.map (hsK P w))[i]? = some (hsK P w (x, k)) := by
    rw [List.getElem?_map, e, ← hk]; rfl
  have il : i < t.place.toList.length := by
    rw [Array.length_toList, tab_size T.tabl]
    exact (List.getElem?_eq_some_iff.mp e).1
  obtain ⟨c, hc, e3⟩ := T.tabl.before f2 e2 (List.getElem?_eq_getElem il)
  exact ⟨c, by rw [e3]; exact List.getElem?_eq_getElem il, Nat.zero_le _, hc⟩
end
end DL
namespace DL
open PySem PySem.Spec PyProof.Rows L2
theorem fmap_all {α β : Type} {f : α → Option β} {g : α → β} : ∀ {l : List α}, (∀ x ∈ l, f x = some (g x)) → l.filterMap f = l.map g
  | [], _ => rfl
  | x :: l, h => by
    rw [List.filterMap_cons_some (h x (by simp)), List.map_cons, fmap_all fun y hy => h y (by simp [hy])]
theorem map_getD_all {α : Type} (d : α) (l : List α) : (List.range l.length).map (fun i => l.getD i d) = l := by
  refine List.ext_getElem (by simp) fun i h1 h2 => ?_
  rw [List.getElem_map, List.getElem_range, List.getD_eq_getElem?_getD, List.getElem?_eq_getElem h2]; rfl
section
variable {P : Program} {w : World} {A : Around} {E : Value → Shared → Prop} {s : Shared} {a : Addr} {L : List KRow} {es : Array (Int × Value)} {ep : Nat} {t : SetTable}
theorem reorder {order : Array Nat} (he : es.toList = L.map (enK P w)) (hp : order.toList.Perm (List.range L.length)) :
    ∃ L2 : List KRow, (order.filterMap (es[·]?)).toList = L2.map (enK P w) ∧ L2.Perm L ∧ L2.map (hsK P w) = order.toList.map fun i => (es.map (·.1)).getD i 0 := by
  have inn : ∀ i ∈ order.toList, i < L.length := fun i hi => List.mem_range.mp (hp.mem_iff.mp hi)
  have ent : ∀ i ∈ order.toList, es[i]? = some (enK P w (L.getD i (0, []))) := fun i hi => ents_get he (by
    rw [List.getElem?_eq_getElem (inn i hi), List.getD_eq_getElem?_getD, List.getElem?_eq_getElem (inn i hi)]; rfl)
  refine ⟨order.toList.map fun i => L.getD i (0, []), ?_, ?_, ?_⟩
  · rw [Array.toList_filterMap, fmap_all ent, List.map_map]; rfl
  · have := hp.map fun i => L.getD i (0, [])
    rw [map_getD_all] at this
    exact this
  · rw [List.map_map]
    refine List.map_congr_left fun i hi => ?_
    have e := ent i hi
    rw [Array.getD_eq_getD_getElem?, Array.getElem?_map, e]
    rfl
/-- the table laid anew -/
theorem relaidT {o : Obj} {wanted M : Nat} (ho : s.heap.get? a = some o) (hex : o.ExactSet) (hd : o.data = .set es ep t) (he : es.toList = L.map (enK P w)) (T : TabOk t (L.map (hsK P w))) (hfl : L.length ≤ t.mask) (nd : (L.map Prod.snd).Nodup)
    (ld : w.params.followText "set-order" = true ∨ t.led = true) (few : L.length < 64) (hw : SetTable.sizeAbove wanted - 1 = M) (hM : MaskOk M) (hw2 : SetTable.sizeAbove wanted ≤ 128) (hn : L.length * 5 < M * 3) {Q : Unit → Shared → Prop}
    (q : ∀ g L' es' ep' t', Heap.SameBut a s.heap g → TSet P w g a L' es' ep' t' → L'.Perm L → Q () { s with heap := g }) : wpAny (model P w) A (setRelay a wanted) Q E s := by
  have sz := ents_size he
  obtain ⟨t', order, e, hp, T', em, el, _, _⟩ := relaid_ok t (hs := es.map (·.1)) (wanted := wanted) hw hM (by rw [Array.size_map, sz]; omega)
  rw [Array.size_map, sz] at hp
  obtain ⟨L2, r1, r2, r3⟩ := reorder he hp
  have sz2 : (order.filterMap (es[·]?)).size = es.size := by rw [ents_size r1, r2.length_eq, sz]
  rw [setRelay_eq]
  refine wpAny_bind (wpAny_setState_of ho hd (by rw [sz]; exact fits_of (tab_size T) T.dm hfl) ?_)
  dsimp only
  refine wp_if_neg (by rw [sizeLine_eq]; omega) ?_
  rw [e]
  dsimp only
  refine wpAny_bind (wp_if_neg (by rw [sz2]; simp) (wpAny_pure ?_))
  dsimp only
  refine wpAny_storeSet_of ho hd ?_ (by rw [sz2, sz, sizeLine_eq]; omega)
  refine q _ L2 _ (ep + 1) t' (Heap.SameBut.update ..) ⟨⟨_, store_at ho hd, ⟨hex.1, hex.2.1, hex.2.2⟩, rfl⟩, r1, by rw [r3]; exact T', (r2.map Prod.snd).nodup_iff.mpr nd, by rw [el]; exact ld, by rw [r2.length_eq, em]; exact hn, by rw [r2.length_eq]; exact few⟩ r2
theorem tab_plain {t : SetTable} {hs : List Int} (T : TabOk t hs) : TabOk { t with plain := false } hs := ⟨T.1, T.2, T.3, T.4, T.5, T.6⟩
/-- one more -/
theorem TSet.add (T : TSet P w s.heap a L es ep t) (KA : KeysAt P w s.heap L) {x : Addr} {k : List Key} (hx : IsK P w s.heap k x) (hu : A.units < cLine) (few : L.length + 1 < 64) {Q : Bool → Shared → Prop}
    (q : ∀ r g L' es' ep' t', Heap.SameBut a s.heap g → TSet P w g a L' es' ep' t' → (k ∈ L.map Prod.snd → L' = L) → (k ∉ L.map Prod.snd → L'.Perm ((x, k) :: L)) → Q r { s with heap := g }) :
    wpAny (model P w) A (setAddHashed a (.ref x) (hsK P w (x, k))) Q E s := by
  obtain ⟨o, ho, hex, hd⟩ := T.here
  have room := T.room
  unfold setAddHashed
  refine wpAny_holding ?_
  rw [show (100000 : Nat) = 99999 + 1 from rfl, setAddHashedIn_succ]
  refine wpAny_bind (wpAny_setState_of ho hd T.fits ?_)
  dsimp only
  refine wp_if_neg (by simp [byScan, Value.scannable]) ?_
  refine wpAny_bind (T.search KA hx hu (fun hm => ?_) fun N hm free full => ?_)
  · exact wpAny_pure (q false s.heap L es ep t (Heap.SameBut.refl a s.heap) T (fun _ => rfl) fun z => absurd hm z)
  dsimp only
  refine wpAny_bind (wpAny_setState_of ho hd T.fits ?_)
  dsimp only
  obtain ⟨q1, q2, q3, q4, q5, q6, q7, q8, q9⟩ := T.tabl.put free full
  generalize t.put (way t.mask (hsK P w (x, k)) N) = pt at q1 q3 q4 q5 q6 q7 q8 q9 ⊢
  obtain ⟨t1, m⟩ := pt
  dsimp only at q1 q3 q4 q5 q6 q7 q8 q9 ⊢
  subst q1
  generalize SetTable.below t.place (way t.mask (hsK P w (x, k)) N) = m at q2 q3 ⊢
  have pm := put_perm L m (x, k)
  have enew : (SetTable.insertAt es m (hsK P w (x, k), Value.ref x)).toList = (L.take m ++ (x, k) :: L.drop m).map (enK P w) := by
    rw [SetTable.toList_insertAt, T.ents, List.map_append, List.map_cons, List.map_take, List.map_drop]; rfl
  have hnew : (L.map (hsK P w)).take m ++ hsK P w (x, k) :: (L.map (hsK P w)).drop m = (L.take m ++ (x, k) :: L.drop m).map (hsK P w) := by
    rw [List.map_append, List.map_cons, List.map_take, List.map_drop]
  rw [hnew] at q3
  have once : ((L.take m ++ (x, k) :: L.drop m).map Prod.snd).Nodup := (pm.map Prod.snd).nodup_iff.mpr (List.nodup_cons.mpr ⟨hm, T.once⟩)
  generalize SetTable.insertAt es m (hsK P w (x, k), Value.ref x) = es1 at enew ⊢
  generalize L.take m ++ (x, k) :: L.drop m = L1 at pm q3 enew once
  have len1 : L1.length = L.length + 1 := by rw [pm.length_eq, List.length_cons]
  have size1 := ents_size enew
  have keep : ∀ t2 : SetTable, TabOk t2 (L1.map (hsK P w)) → t2.mask = t.mask → t2.led = t.led → t2.fill = L.length + 1 →
      wpAny (model P w) A (do
        storeSet a es1 t2
        if !false && t2.tooFull then setRelay a (SetTable.grown (es.size + 1))
        return true) Q E s := fun t2 T2 m2 l2 f2 => by
    refine wpAny_bind (wpAny_storeSet_of ho hd ?_ (by rw [size1, len1, sizeLine_eq]; omega))
    have but : Heap.SameBut a s.heap (s.heap.update a (Obj.putSet es1 t2)) := Heap.SameBut.update ..
    have ho1 := store_at (es' := es1) (t' := t2) ho hd
    generalize s.heap.update a (Obj.putSet es1 t2) = g1 at but ho1 ⊢
    have led2 : w.params.followText "set-order" = true ∨ t2.led = true := by rw [l2]; exact T.led
    by_cases tf : t2.tooFull = true
    · refine wp_if_pos (by simp [tf]) (wpAny_bind ?_)
      have five : (L.length + 1) * 5 ≥ t.mask * 3 := by
        unfold SetTable.tooFull at tf
        rw [decide_eq_true_eq, f2, m2] at tf
        exact tf
      rw [ents_size T.ents]
      have two : (t.mask = 7 ∧ L.length = 4) ∨ (t.mask = 31 ∧ L.length = 18) := by
        rcases T.tabl.mok with e | e | e <;> rw [e] at five room
        · exact .inl ⟨e, by omega⟩
        · exact .inr ⟨e, by omega⟩
        · omega
      have go : ∀ M, SetTable.sizeAbove (SetTable.grown (L.length + 1)) - 1 = M → MaskOk M → SetTable.sizeAbove (SetTable.grown (L.length + 1)) ≤ 128 → (L.length + 1) * 5 < M * 3 →
          wpAny (model P w) A (setRelay a (SetTable.grown (L.length + 1))) (fun _ s' => wpAny (model P w) A (pure true) Q E s') E { s with heap := g1 } := fun M w1 w2 w3 w4 => by
        refine relaidT (s := { s with heap := g1 }) ho1 ⟨hex.1, hex.2.1, hex.2.2⟩ rfl enew T2 (by rw [m2, len1]; rcases two with ⟨z, y⟩ | ⟨z, y⟩ <;> omega) once led2 (by rw [len1]; exact few) w1 w2 w3 (by rw [len1]; exact w4) fun g2 L2 es2 ep2 t2 but2 S2 pm2 => ?_
        exact wpAny_pure (q true g2 L2 es2 ep2 t2 (but.trans but2) S2 (fun z => absurd z hm) fun _ => pm2.trans pm)
      rcases two with ⟨_, y⟩ | ⟨_, y⟩
      · exact go 31 (by rw [y, size_20]) (.inr (.inl rfl)) (by rw [y, size_20]; decide) (by omega)
      · exact go 127 (by rw [y, size_76]) (.inr (.inr rfl)) (by rw [y, size_76]; decide) (by omega)
    · refine wp_if_neg (by simp [tf]) (wpAny_pure (q true g1 L1 es1 (ep + 1) t2 but ⟨⟨_, ho1, ⟨hex.1, hex.2.1, hex.2.2⟩, rfl⟩, enew, T2, once, led2, ?_, by rw [len1]; exact few⟩ (fun z => absurd z hm) fun _ => pm))
      unfold SetTable.tooFull at tf
      rw [decide_eq_true_eq, f2, m2] at tf
      rw [len1, m2]
      omega
  have last : ∀ r : Bool, wpAny (model P w) A (do
      storeSet a es1 (if r = true then t1 else { t1 with plain := false })
      if !false && (if r = true then t1 else { t1 with plain := false }).tooFull then setRelay a (SetTable.grown (es.size + 1))
      return true) Q E s := fun r => by
    rw [List.length_map] at q9
    cases r
    · exact keep _ (tab_plain q3) q4 q5 q9
    · exact keep _ q3 q4 q5 q9
  by_cases pl : t1.plain = true
  · first
      | (refine wpAny_bind (wp_if_pos pl (hash_tup hx fun r => ?_)); exact last r)
      | (refine wp_if_pos pl (wpAny_bind (hash_tup hx fun r => ?_)); exact last r)
  · first
      | (refine wpAny_bind (wp_if_neg pl (wpAny_pure ?_)); exact last true)
      | (refine wp_if_neg pl (wpAny_bind (wpAny_pure ?_)); exact last true)
      | (refine wp_if_neg pl ?_; exact last true)
end
end DL
namespace DL
open PySem PySem.Spec PyProof.Rows L2
open PySem.W (EachIs AllAlike Sortable KeepsBut SortsAt KeyedOut dataLe dataKind alike sortingHeap sortingHeap_old)
section
variable {P : Program} {w : World} {A : Around} {E : Value → Shared → Prop} {s : Shared}
/-- what the first i rows gave -/
structure Had (rows : List KRow) (i : Nat) (L : List KRow) : Prop where
  sub : ∀ p ∈ L, p ∈ rows
  all : ∀ p ∈ rows.take i, p.2 ∈ L.map Prod.snd
  len : L.length ≤ i
def SetHad (P : Program) (w : World) (h : Heap) (a : Addr) (rows : List KRow) (i : Nat) : Prop := ∃ L es ep t, TSet P w h a L es ep t ∧ Had rows i L
theorem TSet.at2 {h h' : Heap} {a : Addr} {L : List KRow} {es : Array (Int × Value)} {ep : Nat} {t : SetTable} (T : TSet P w h a L es ep t) (k : ∀ o, h.get? a = some o → h'.get? a = some o) : TSet P w h' a L es ep t := by
  obtain ⟨o, ho, r⟩ := T.here
  exact ⟨⟨o, k o ho, r⟩, T.ents, T.tabl, T.once, T.led, T.room, T.few⟩
theorem SetHad.at2 {h h' : Heap} {a : Addr} {rows : List KRow} {i : Nat} (T : SetHad P w h a rows i) (k : ∀ o, h.get? a = some o → h'.get? a = some o) : SetHad P w h' a rows i := by
  obtain ⟨L, es, ep, t, T, g⟩ := T
  exact ⟨L, es, ep, t, T.at2 k, g⟩
end
end DL
namespace DL
open PySem PySem.Spec PyProof.Rows L2
section
variable {X : Cx} {C fI : Addr} {x : Str} {e : Expr} {es : List Expr} {t : TA} {p pos : Pos}
/-- an own class without own __init__, called -/
theorem pmk_ownAN {bmB : List Value} {B nI iI : String} (F : ExcBaseFacts B nI iI bmB) (q : PySem.W.excIn X.K C bmB nI = true) (gC : X.mg x = some (.ref C)) (kC : PySem.W.keepIn X.K (.ref C) = true) (r : Raises X (.ref C)) (hg : Gl X x) (ha : PA X (e :: es) t) (hdb : (x == ("__debug__" : Str)) = false := by decide)
    (he : starEach (e :: es) X.env = (false, eval e X.env) :: starEach es X.env := by rfl) (hpl : (backTo pos (starEach es X.env)).any (·.1) = false := by rfl) : L2N.PMk X (.Call (.Name x p) (e :: es) [] pos) (fun σ H Q => t σ H fun vs H1 => vs.length ≤ sizeLine ∧ Q (.ref C) none H1) := fun pins s σ H Q I h =>
  wpAny_Call_Name_kw (ld_glob I hg gC (PySem.W.callWith_K (h₀ := X.base) I.ok.mod.kin kC (thn (ha.run pos pins s σ H _ I h) fun us s1 ⟨vs, H1, I1, rv, hz, q1⟩ => ⟨I1.kIn, by
    obtain ⟨bm, N, nm, qn, bs, hdct, sn, sub, ab, col, dd, k0, k1, k2, k3, k5, mN, hC, hN, hni, T⟩ := exc_obj I1.kIn q
    exact wpAny_call_exc_subT F T hC hN hni (fun h' b hm => L2N.mk_of I1 hm r q1 (I1.hok.gone hm.new)) (by rw [List.nil_append, ← rv.length]; exact hz)⟩) he hpl) hdb)
end
section
variable {P : Program} {w : World} {K : PySem.W.Frag} {mg : Str → Option Value} {base : Heap}
theorem _root_.L2.Fun.okXN {x qual : Str} {st : Stmt} {f : Addr} {fd : FuncData} {N ps : List Str} {k : Nat} {sp : Sp} (F : Fun K x qual st f fd) (S : FnScope N ps (defScope st)) (len : ∀ vs H Q E, sp vs H Q E → vs.length = ps.length)
    (hbody : ∀ (cdv : Value) (A : Around) (outer : List Env) (s : Shared) (H : Hp) (vs : List V) (Q : VK) (E : XK), Room k (A.deeper (envOfC qual (defScope st) s.heap.objs.size f cdv)) → sp vs H Q E →
      ∃ t, PSs (cxOf (L2N.CX P w) P w K mg base N qual (defScope st) f cdv A outer s H E) (defBody st) t ∧ t { nx := fun _ H' => Q .non H', rt := Q } (L2.start N vs) H) : FnOk P w K mg base (L2N.CX P w) (k + 1) f fd ps sp := by
  obtain ⟨_, _, _, _, _, _, _, _, _, rfl, lk, hcd⟩ := F.ex
  exact fn_of lk hcd S len fun A outer s H vs Q E hr hs => hbody _ A outer s H vs Q E hr hs
end
/-- the context of a def's body, an error of it told with its context -/
abbrev bxN (P : Program) (w : World) (K : PySem.W.Frag) (mg : Str → Option Value) (base : Heap) (N : List Str) (qual : Str) (st : Stmt) (f : Addr) (cdv : Value) (A : Around) (outer : List Env) (s : Shared) (H : Hp) (E : XK) : Cx :=
  cxOf (L2N.CX P w) P w K mg base N qual (defScope st) f cdv A outer s H E
abbrev Err := PySem.W.Frag → Value → Option Addr → Hp → Prop
/-- an error of the class named cn, without fields -/
def errN (cn : Str) : Err := fun K v d _ => ∃ C, PySem.W.nsIn K mainGlobals cn = some (some (.ref C)) ∧ v = .ref C ∧ d = none
/-- e lets out such an error -/
def EG (X : Cx) (ρ : En) (e : Expr) (Θ : Err) : Prop := ∀ B0 B σ H0 H (Q : VK) (W : L2.WX), L2N.Takes X W → J X.K B0 B σ H0 H ρ → (∀ v d H0' H', Θ X.K v d H0' → JH H0 H H0' H' → W v d σ H') → RE X e σ H Q
def XG1 (X : Cx) (st : Stmt) (ρ : En) (Θ : Err) (ρx : En) : Prop := ∀ B0 B σ H0 H Dn (W : L2.WX), L2N.Takes X W → J X.K B0 B σ H0 H ρ → (∀ v d σ' H0' H', Θ X.K v d H0' → J X.K B0 B σ' H0' H' ρx → W v d σ' H') → RS X st Dn σ H
def XG (X : Cx) (sts : List Stmt) (ρ : En) (Θ : Err) (ρx : En) : Prop := ∀ B0 B σ H0 H Dn (W : L2.WX), L2N.Takes X W → J X.K B0 B σ H0 H ρ → (∀ v d σ' H0' H', Θ X.K v d H0' → J X.K B0 B σ' H0' H' ρx → W v d σ' H') → RSs X sts Dn σ H
def ThenG (X : Cx) (rest : List Stmt) (Θ : Err) (ρx : En) : Out → Prop
  | .nx ρ => XG X rest ρ Θ ρx
  | _ => False
section
variable {X : Cx} {ρ ρx : En} {Θ : Err} {e : Expr} {st : Stmt} {rest sa sb : List Stmt} {pos : Pos}
theorem xg_head (h : XG1 X st ρ Θ ρx) : XG X (st :: rest) ρ Θ ρx := fun B0 B σ H0 H Dn W tk j k => ⟨_, pss_cons ps_star pss_star, h B0 B σ H0 H _ W tk j k⟩
theorem xg_cons (h : WS X st ρ (ThenG X rest Θ ρx)) : XG X (st :: rest) ρ Θ ρx := fun B0 B σ H0 H Dn W tk j k => by
  refine ⟨_, pss_cons ps_star pss_star, h B0 B σ H0 H _ j fun o ho => ?_⟩
  cases o with
  | nx ρ' => exact fun σ' H0' H' j' => ho B0 B σ' H0' H' Dn W tk j' k
  | bk ρ' => exact ho.elim
  | ct ρ' => exact ho.elim
  | rt d => exact ho.elim
  | ro c => exact ho.elim
  | rc d cs => exact ho.elim
theorem xg_if {c : Expr} {k : Bool} (hc : TD X ρ c k) (h1 : k = true → XG X sa ρ Θ ρx) (h2 : k = false → XG X sb ρ Θ ρx) : XG1 X (.If c sa sb pos) ρ Θ ρx := fun B0 B σ H0 H Dn W tk j kk => by
  refine ⟨_, ps_if pt_star pss_star pss_star, hc B0 B σ H0 H _ j fun H0' H' g => ?_⟩
  cases k with
  | true => exact iteT (h1 rfl B0 B σ H0' H' Dn W tk (j.grow g) kk)
  | false => exact iteF (h2 rfl B0 B σ H0' H' Dn W tk (j.grow g) kk)
/-- if c: .. raise; what follows raises too, or is never reached -/
theorem xg_ifr {c : Expr} {k : Bool} (hc : TD X ρ c k) (h1 : k = true → XG X sa ρ Θ ρx) (h2 : k = false → XG X rest ρ Θ ρx) : XG X (.If c sa [] pos :: rest) ρ Θ ρx := by
  cases k with
  | true => exact xg_head (xg_if hc (fun _ => h1 rfl) fun h => by cases h)
  | false => exact xg_cons (ws_if hc (fun h => by cases h) fun _ => ws_nil (h2 rfl))
/-- if c: ..; one of both ways raises, or what follows does -/
theorem xg_ife {c : Expr} {k : Bool} (hc : TD X ρ c k) (h1 : k = true → XG X sa ρ Θ ρx) (h2 : k = false → XG X sb ρ Θ ρx) : XG X (.If c sa sb pos :: rest) ρ Θ ρx := xg_head (xg_if hc h1 h2)
theorem xg_expr (h : EG X ρ e Θ) (hs : swapsWith e none pos.line X.env = pure false := by rfl) : XG1 X (.Expr e pos) ρ Θ ρ := fun B0 B σ H0 H Dn W tk j k =>
  ⟨_, ps_expr pe_star hs, h B0 B σ H0 H _ W tk j fun v d L0 L t g => k v d σ L0 L t (j.grow g)⟩
/-- raise cn(e, ..), a class without fields -/
theorem xg_raise {cn : Str} {es : List Expr} {ds : List D} {p pos' : Pos} (xc : Xc X.K X.mg cn) (hg : Gl X cn) (ha : AD X ρ (e :: es) ds) (hl : ds.length ≤ sizeLine := by simp only [List.length_cons, List.length_nil]; decide) (hc : X.calm = true := by rfl) (hdb : (cn == ("__debug__" : Str)) = false := by decide +kernel)
    (he : starEach (e :: es) X.env = (false, eval e X.env) :: starEach es X.env := by rfl) (hpl : (backTo pos (starEach es X.env)).any (·.1) = false := by rfl) :
    XG1 X (.Raise (some (.Call (.Name cn p) (e :: es) [] pos)) none pos') ρ (errN cn) ρ := fun B0 B σ H0 H Dn W tk j k => by
  obtain ⟨C, hC, hm, hx, hk, hb, ht, _⟩ := xc.ex
  refine ⟨_, L2N.ps_raise hc tk (pmk_ownAN PySem.F.excBase_ValueError hx hm hk (raises_own hb ht) hg pa_star hdb he hpl), ha B0 B σ H0 H _ j fun vs G0 G g r => ⟨by rw [← DRs.length r]; exact hl, k _ _ σ G0 G ⟨C, hC, rfl, rfl⟩ (j.grow g)⟩⟩
end
def spXG (K : PySem.W.Frag) (R : List D → Err → Prop) : Sp := fun vs H _ E => ∃ H0 ds Θ, Same H0 H ∧ DRs K H0 ds vs ∧ R ds Θ ∧ ∀ v d H0' H', Θ K v d H0' → JH H0 H H0' H' → E v d H'
/-- a method of a shared instance that raises -/
structure FnMXG (P : Program) (w : World) (K : PySem.W.Frag) (mg : Str → Option Value) (base : Heap) (cn m : Str) (k : Nat) (R : List D → Err → Prop) : Prop where
  ex : ∃ C f fd ps, PySem.W.nsIn K mainGlobals cn = some (some (.ref C)) ∧ Cls K C ∧ Meth K C m f ∧ FnOk P w K mg base (L2N.CX P w) k f fd ps (spXG K R) ∧ Binds K fd ps []
section
variable {P : Program} {w : World} {K : PySem.W.Frag} {mg : Str → Option Value} {base : Heap}
theorem fn_okXG {x qual : Str} {st : Stmt} {f : Addr} {fd : FuncData} {N ps : List Str} {k : Nat} {R : List D → Err → Prop} (F : Fun K x qual st f fd) (S : FnScope N ps (defScope st)) (hR : ∀ ds c, R ds c → ds.length = ps.length)
    (h : ∀ ds c, R ds c → ∀ (cdv : Value) (A : Around) (outer : List Env) (s : Shared) (H : Hp) (E : XK), Room k (A.deeper (envOfC qual (defScope st) s.heap.objs.size f cdv)) →
      ∃ ρx, XG (bxN P w K mg base N qual st f cdv A outer s H E) (defBody st) (en N ds) c ρx) : FnOk P w K mg base (L2N.CX P w) (k + 1) f fd ps (spXG K R) := by
  refine F.okXN S (fun vs H Q E hs => ?_) fun cdv A outer s H vs Q E hr hs => ?_
  · obtain ⟨H0, ds, d, _, r, q, _⟩ := hs
    rw [← DRs.length r]; exact hR ds d q
  · obtain ⟨H0, ds, c, s0, r, q, kk⟩ := hs
    have hN : ds.length ≤ N.length := by
      have h1 := hR ds c q
      have h2 := congrArg List.length S.pre
      rw [List.length_take] at h2
      omega
    obtain ⟨ρx, h0⟩ := h ds c q cdv A outer s H E hr
    obtain ⟨t, h1, h2⟩ := h0 H0 H (L2.start N vs) H0 H { nx := fun _ H' => Q .non H', rt := Q } (fun cls d _ H' => E cls d H') (L2N.takes_of rfl rfl rfl rfl) (j_start s0 r hN) fun v d σ' G0 G t j' => kk v d G0 G t j'.hp
    exact ⟨t, h1, h2⟩
end
section
variable {X : Cx} {CX : CXT} {k : Nat} {f C : Addr} {fd : FuncData} {ps : List Str} {sp : Sp} {E : L2.St → XK} {m : Str} {pos apos : Pos} {e o : Expr} {es : List Expr} {ta : TE} {t : TA}
def tMethS (C : Addr) (m : Str) (sp : Sp) (E : L2.St → XK) (ta : TE) (t : TA) : TE := fun σ H Q => ta σ H fun x H1 => ∃ a dx fs, x = .ref a ∧ H1 a = some (.ins C dx fs) ∧ fs.lookup m = none ∧ t σ H1 fun vs H2 => sp (x :: vs) H2 Q (E σ)
theorem pe_methS {pl : Sem Bool} (he : PE X o ta) (c : Cls X.K C) (hm : Meth X.K C m f) (F : FnOk X.prog X.w X.K X.mg X.base CX k f fd ps sp) (hr : Room k X.A) (hb : Binds X.K fd ps []) (hx : ∀ σ, PassesAt CX X σ (E σ)) (ha : PA X (e :: es) t)
    (hst : starEach (e :: es) X.env = (false, eval e X.env) :: starEach es X.env := by rfl) (hpl : (backTo pos (starEach es X.env)).any (·.1) = false := by rfl)
    (ht : eval (.Call (.Attribute o m apos) (e :: es) [] pos) X.env = (do
      let ov ← eval o X.env
      standAt apos.atName
      let (f, first) ← holding [ov] (getMethod ov m pl)
      callWith pos f first (backTo pos (starEach (e :: es) X.env)) (backToKw pos (keywordEach [] X.env))) := by rfl) :
    PE X (.Call (.Attribute o m apos) (e :: es) [] pos) (tMethS C m sp E ta t) := by
  refine ⟨fun pins s σ H Q I h => PySem.W.methodCall_KW (pl := pl) (thn (he.run pins s σ H _ I h) fun u s1 ⟨x, H1, I1, rx, a, dx, fs, ex, ea, l, q⟩ => ?_) ht⟩
  subst ex
  cases (show u = Value.ref a from rx)
  refine getmeth_ok I1 ea c hm l (PySem.W.callWith_K (first := [.ref a]) (h₀ := X.base) I.ok.mod.kin hm.kp (thn (ha.run pos pins s1 σ H1 _ I1 q) fun us s2 ⟨vs, H2, I2, r, q2⟩ => ⟨I2.kIn, ?_⟩) hst hpl)
  exact run_fnS (us := .ref a :: us) (vs := .ref a :: vs) F hr hb (hx σ) I2 (.cons rfl r) q2
end
section
variable {X : Cx} {ρ ρx : En} {e o : Expr} {es : List Expr} {pos p apos : Pos} {Θ : Err} {ds fds : List D} {ns : List Str} {cn m : Str} {k : Nat} {pl : Sem Bool}
theorem eg_meth {R : List D → Err → Prop} (G : FnMXG X.prog X.w X.K X.mg X.base cn m k R) (hr : Room k X.A) (ho : ED X ρ o (.obj cn ns fds)) (ha : AD X ρ (e :: es) ds) (hR : R (.obj cn ns fds :: ds) Θ)
    (hm : ns.contains m = false := by decide +kernel) (hst : starEach (e :: es) X.env = (false, eval e X.env) :: starEach es X.env := by rfl) (hpl : (backTo pos (starEach es X.env)).any (·.1) = false := by rfl)
    (ht : eval (.Call (.Attribute o m apos) (e :: es) [] pos) X.env = (do
      let ov ← eval o X.env
      standAt apos.atName
      let (f, first) ← holding [ov] (getMethod ov m pl)
      callWith pos f first (backTo pos (starEach (e :: es) X.env)) (backToKw pos (keywordEach [] X.env))) := by rfl) :
    EG X ρ (.Call (.Attribute o m apos) (e :: es) [] pos) Θ := fun B0 B σ H0 H Q W tk j kk => by
  obtain ⟨C, f, fd, ps, hC, hc, hmt, F, hb⟩ := G.ex
  refine RE.of (pe_methS (E := WE W) pe_star hc hmt F hr hb (fun σ => L2N.passAt tk σ) pa_star hst hpl ht) (ho B0 B σ H0 H _ j fun v G0 G g r => ?_)
  obtain ⟨a, C', dx, vs, rfl, hC', hA, hlen, hvs⟩ := id r
  rw [hC] at hC'; cases hC'
  exact ⟨a, dx, _, rfl, g.sh _ _ hA, zip_none hm, ha B0 B σ G0 G _ (j.grow g) fun ws L0 L g2 r2 => ⟨L0, .obj cn ns fds :: ds, Θ, g2.sh, ⟨_, _, rfl, DR.mono g2.s0 _ _ r, r2⟩, hR, fun v d M0 M t g3 => kk v d M0 M t ((g.trans g2).trans g3)⟩⟩
end
end DL
namespace DL
open PySem PySem.Spec PyProof.Rows L2
theorem takes0N {X : Cx} : L2N.Takes X (fun _ _ _ _ => False) := fun _ _ ⟨_, _, _, _, _, _, _, _, _, _, _, _, _, _, _, _, z⟩ => z.elim
end DL
namespace DL
open PySem PySem.Spec PyProof.Rows L2
def mergeK (kvs more : List (Key × V)) : List (Key × V) := more.foldl (fun acc p => putK acc p.1 p.2) kvs
end DL
namespace DL
open PySem PySem.Spec PyProof.Rows L2
def nosE (n : Nat) : En := List.replicate n .no
theorem J.nos {K : PySem.W.Frag} {B0 B H0 H : Hp} {σ : L2.St} {ρ : En} {n : Nat} (j : J K B0 B σ H0 H ρ) (h : ρ.length = n) : J K B0 B σ H0 H (nosE n) := by
  unfold nosE
  have key : ∀ (i : Nat) s, (List.replicate n Sl.no)[i]? = some s → s = .no := fun i s e => by
    rw [List.getElem?_replicate] at e
    split at e
    · exact (Option.some.inj e).symm
    · cases e
  refine ⟨j.hp, by rw [j.len, h, List.length_replicate], fun i s ov h1 _ => ?_, fun i k s s' ov ov' a h1 _ _ _ w _ => ?_⟩
  · rw [key i s h1]; trivial
  · rw [key i s h1] at w; exact w.elim
/-- nothing more is told of the slots -/
theorem xg_no {X : Cx} {sts : List Stmt} {ρ ρ' : En} {Θ : Err} {n : Nat} (h : XG X sts ρ Θ ρ') (hl : ρ'.length = n := by first | rfl | simp) : XG X sts ρ Θ (nosE n) := fun B0 B σ H0 H Dn W tk j k =>
  h B0 B σ H0 H Dn W tk j fun v d σ' H0' H' t j' => k v d σ' H0' H' t (j'.nos hl)
end DL
namespace DL
open PySem PySem.Spec PyProof.Rows L2
/-- the items of a dict, as data -/
def itK (ks : List Key) (ds : List D) : List D := (ks.zip ds).map fun q => .tup [kD q.1, q.2]
theorem itK_len {ks : List Key} {ds : List D} (h : ks.length = ds.length) : (itK ks ds).length = ks.length := by unfold itK; rw [List.length_map, List.length_zip]; omega
theorem walk_itemsK {d : Addr} {o : Obj} {kvs : List (Key × V)} : Walk (Iti d o kvs) kvs.length (fun H => H d = some (.frz o (.dK kvs)))
    (fun i H x H' => ∃ T k v, kvs[i]? = some (k, v) ∧ x = .ref T ∧ H T = none ∧ H' = upd H T (.tup [kV k, v])) :=
  ⟨fun _ _ hi q => ⟨q, hi⟩, fun _ q => ⟨q, Nat.le_refl _⟩, fun _ _ _ _ _ _ y => y⟩
theorem kD_dr {K : PySem.W.Frag} {H : Hp} (k : Key) : DR K H (kD k) (kV k) := by cases k <;> rfl
section
variable {X : Cx} {ρ : En} {pos : Pos} {kx vx elt tg iter tg1 iter1 : Expr} {ifs : List Expr} {scope : Scope} {own : List (Str × Nat)} {ds : List D} {cpos : Pos} {Φ : Out → Prop} {α β : Type}
/-- one turn of a dict comprehension with tests -/
def TurnDF (X : Cx) (ρ : En) (scope : Scope) (vs : List Nat) (tg kx vx : Expr) (ifs : List Expr) (d : D) (y : Option (Key × D)) : Prop :=
  ∃ ρ' : En, ρ'.length = ρ.length ∧ ∀ (s : Shared) (H : Hp) (C : Addr) (cl : List (Str × Addr)) (fp : List Addr), DG (X.blk s H scope (compEnvC scope cl C X.env) fp) vs tg d (wipeE ρ vs) ρ' ∧
    (match y with
    | some z => TDs (X.blk s H scope (compEnvC scope cl C X.env) fp) ρ' ifs true ∧ ED (X.blk s H scope (compEnvC scope cl C X.env) fp) ρ' kx (kD z.1) ∧ ED (X.blk s H scope (compEnvC scope cl C X.env) fp) ρ' vx z.2
    | none => TDs (X.blk s H scope (compEnvC scope cl C X.env) fp) ρ' ifs false)
abbrev TDcC (X : Cx) (scope : Scope) (own : List (Str × Nat)) (tg kx vx iter : Expr) (ifs : List Expr) : TE := tDc (RI X tg iter) (GB X scope tg) (TB X scope ifs) (EB X scope kx) (EB X scope vx) (own.map (·.2))
theorem dc_readF {B0 B : Hp} {σ : L2.St} {H0 H : Hp} {Q : VK} (hi : ∀ R, (∀ Jt H0' H', JH H0 H H0' H' → DWalk X.K Jt H0' ds → R Jt H') → RI X tg iter σ H R) (ys : List (Option (Key × D))) (hlen : ys.length = ds.length) (nd : ((ys.filterMap id).map (·.1)).Nodup) (turn : ∀ (i : Nat) d y, ds[i]? = some d → ys[i]? = some y → TurnDF X ρ scope (own.map (·.2)) tg kx vx ifs d y) (hl : ds.length ≤ sizeLine) (j : J X.K B0 B σ H0 H ρ)
    (k : ∀ a o H0' H', JH H0 H H0' H' → H' a = some o → H0' a = none → H a = none → OCR X.K H0' (.dk ((ys.filterMap id).map (·.1)) ((ys.filterMap id).map (·.2))) o → Q (.ref a) H') : TDcC X scope own tg kx vx iter ifs σ H Q := by
  refine hi _ fun Jt G0 G g0 ⟨GG, Y, w, hG, hY⟩ => fun Dn hD => ?_
  have j0 := j.grow g0
  refine dc_it (g := GB X scope tg) (tt := TB X scope ifs) (tk := EB X scope kx) (tv := EB X scope vx) (vs := own.map (·.2)) (Qd := fun H => Q (.ref Dn) H) w
    (fun i H1 => ∃ L0 acc, JH G0 G L0 H1 ∧ H1 Dn = some (.dK ((((ys.take i).filterMap id).map (·.1)).zip acc)) ∧ L0 Dn = none ∧ acc.length = ((ys.take i).filterMap id).length ∧ DRs X.K L0 (((ys.take i).filterMap id).map (·.2)) acc) ⟨G0, [], JH.own g0.sh hD, upd_same, g0.sh.free hD, rfl, rfl⟩ (fun i H1 _ ⟨L0, acc, g1, _⟩ => hG L0 H1 g1.s0 g1.sh) ?_ ?_
  · rintro i x H1 H1' hi ⟨L0, acc, g1, hDn, hD0, hla, racc⟩ hy
    obtain ⟨d, hd⟩ : ∃ d, ds[i]? = some d := ⟨ds[i], by simp [hi]⟩
    obtain ⟨L1, g2, rx⟩ := hY i L0 H1 x H1' d hd g1.s0 g1.sh hy
    obtain ⟨yo, hyo⟩ : ∃ y, ys[i]? = some y := ⟨ys[i]'(by omega), by simp [show i < ys.length by omega]⟩
    obtain ⟨ρ', hlen', turn⟩ := turn i d yo hd hyo
    have j1 := ((j0.grow g1).grow g2).wipe (own.map (·.2))
    intro s Hs C cl fp
    refine (turn s Hs C cl fp).1 B0 B _ L1 H1' x _ j1 rx fun σ2 j2 off => ⟨wipe_back (by rw [j2.len, hlen', ← wipeE_length ρ (own.map (·.2)), ← j1.len, wipe_length]) off, ?_⟩
    have gg := g1.trans g2
    have hDn' := g2.sB _ _ hDn
    have hD0' : L1 Dn = none := g2.fr _ _ hDn trivial hD0
    have eT := filterMap_take id ys i yo hyo
    cases yo with
    | none =>
      intro s Hs C cl fp
      have t2 := (turn s Hs C cl fp).2
      refine t2 B0 B σ2 L1 H1' _ j2 fun M0 M g3 => iteF ⟨M0, acc, gg.trans g3, ?_, g3.fr _ _ hDn' trivial hD0', ?_, ?_⟩
      · rw [eT]; simpa using g3.sB _ _ hDn'
      · rw [eT]; simpa using hla
      · rw [eT]; simpa using DRs.mono (g2.trans g3).s0 _ _ racc
    | some z =>
      intro s Hs C cl fp
      refine (turn s Hs C cl fp).2.1 B0 B σ2 L1 H1' _ j2 fun M0 M g3 => iteT fun s Hs C cl fp => ?_
      refine (turn s Hs C cl fp).2.2.1 B0 B σ2 M0 M _ (j2.grow g3) fun y N0 N g4 ry => fun s Hs C cl fp => ?_
      refine (turn s Hs C cl fp).2.2.2 B0 B σ2 N0 N _ ((j2.grow g3).grow g4) fun v P0 P g5 rv => ?_
      have g345 := (g3.trans g4).trans g5
      have h5 := g345.sB _ _ hDn'
      have h50 : P0 Dn = none := g345.fr _ _ hDn' trivial hD0'
      have gl := gg.trans g345
      have hle : (((ys.take i).filterMap id).map (·.1)).length = acc.length := by rw [List.length_map, hla]
      have hnin : z.1 ∉ ((ys.take i).filterMap id).map (·.1) := by
        have h1 : (((ys.take (i + 1)).filterMap id).map (·.1)).Nodup := by
          refine nd.sublist ?_
          exact ((List.take_sublist ..).filterMap _).map _
        rw [eT] at h1
        simp only [id, Option.toList, List.map_append, List.map_cons, List.map_nil] at h1
        rw [List.nodup_append] at h1
        exact fun q => h1.2.2 _ q z.1 (by simp) rfl
      have eT2 : (ys.take (i + 1)).filterMap id = (ys.take i).filterMap id ++ [z] := by rw [eT]; rfl
      refine ⟨_, z.1, kD_val ry, h5, ?_, P0, acc ++ [v], ⟨gl.s0, fun b u e => upd_keep (gl.sh b u e) (ne_of_none e h50), fun b u e => upd_keep (gl.sB b u e) (ne_of_none e hD), gl.fr⟩, ?_, h50, ?_, ?_⟩
      · rw [List.length_zip, hle, Nat.min_self, hla]
        have h1 := filterMap_len id ys i
        omega
      · rw [upd_same, putK_zip hle hnin, eT2, List.map_append]
        rfl
      · rw [List.length_append, hla, eT2, List.length_append]; rfl
      · rw [eT2, List.map_append]
        exact DRs.app (DRs.mono (g2.trans g345).s0 _ _ racc) (DRs.one rv)
  · rintro H1 ⟨L0, acc, g1, hDn, hD0, hla, racc⟩
    rw [List.take_of_length_le (Nat.le_of_eq hlen)] at hDn hla racc
    exact k Dn _ L0 H1 (g0.trans g1) hDn hD0 (g0.sB.free hD) ⟨acc, rfl, by rw [List.length_map, hla], racc⟩
end
end DL
namespace DL
open PySem PySem.Spec PyProof.Rows L2
/-- values of the keys other than k0 -/
def delK (ks : List Key) (k0 : Key) : List Key := ks.filter fun k => decide (k ≠ k0)
def delV : List Key → List D → Key → List D
  | k :: ks, d :: ds, k0 => if k = k0 then delV ks ds k0 else d :: delV ks ds k0
  | _, _, _ => []
theorem drop_zip {K : PySem.W.Frag} {H : Hp} {k0 : Key} : ∀ {ks : List Key} {ds : List D} {vs : List V}, ks.length = vs.length → DRs K H ds vs → ∃ ws, dropK (ks.zip vs) k0 = (delK ks k0).zip ws ∧ (delK ks k0).length = ws.length ∧ DRs K H (delV ks ds k0) ws
  | [], ds, vs, hl, r => by
    cases vs with
    | nil => exact ⟨[], rfl, rfl, by cases ds <;> exact rfl⟩
    | cons v vs => simp at hl
  | k :: ks, ds, vs, hl, r => by
    cases vs with
    | nil => simp at hl
    | cons v vs =>
      cases ds with
      | nil => exact absurd (DRs.length r) (by simp)
      | cons d ds =>
        obtain ⟨v', vs', e, r1, r2⟩ := r
        cases e
        obtain ⟨ws, h1, h2, h3⟩ := drop_zip (k0 := k0) (ks := ks) (ds := ds) (vs := vs) (by simpa using hl) r2
        by_cases e : k = k0
        · refine ⟨ws, ?_, ?_, ?_⟩
          · show dropK ((k, v) :: ks.zip vs) k0 = _
            unfold dropK delK at *
            rw [List.filter_cons_of_neg (by simp [e]), List.filter_cons_of_neg (by simp [e])]; exact h1
          · unfold delK at *
            rw [List.filter_cons_of_neg (by simp [e])]; exact h2
          · unfold delV; rw [if_pos e]; exact h3
        · refine ⟨v :: ws, ?_, ?_, ?_⟩
          · show dropK ((k, v) :: ks.zip vs) k0 = _
            unfold dropK delK at *
            rw [List.filter_cons_of_pos (by simp [e]), List.filter_cons_of_pos (by simp [e]), h1]; rfl
          · unfold delK at *
            rw [List.filter_cons_of_pos (by simp [e]), List.length_cons, List.length_cons, h2]
          · unfold delV; rw [if_neg e]; exact ⟨v, ws, rfl, r1, h3⟩
section
variable {X : Cx} {ρ : En} {Φ : Out → Prop} {a b : Expr} {pos : Pos}
theorem ws_ddelI (i m : Nat) {p : Addr} {cs : Cs} {d0 : D} {ks : List Key} {ds : List D} {k0 : Key} {p2 : Pos} (hi : ρ[i]? = some (.ox cs d0)) (hm : cs[m]? = some (p, OC.dk ks ds)) (ha : ED X ρ a (.ad p)) (hb : ED X ρ b (kD k0)) (hk : k0 ∈ ks)
    (hΦ : Φ (.nx (ρ.set i (.ox (cs.set m (p, .dk (delK ks k0) (delV ks ds k0))) d0)))) : WS X (.Delete [.Subscript a b p2] pos) ρ Φ := fun B0 B σ H0 H Dn j kk => by
  have nd : (pl cs).Nodup := by obtain ⟨_, _, _, _, nd⟩ := j.get hi; exact nd
  refine ⟨_, ps_ddel pe_star pe_star, ha B0 B σ H0 H _ j fun x G0 G g1 r1 => hb B0 B σ G0 G _ (j.grow g1) fun y L0 L g2 r2 => ?_⟩
  cases (show x = .ref p from r1)
  rw [kD_val r2]
  have j1 := (j.grow g1).grow g2
  obtain ⟨o, h1, h2, h3, vs, rfl, hlen, rr⟩ := j1.cell hi (List.mem_iff_getElem?.mpr ⟨m, hm⟩)
  obtain ⟨ws, e1, e2, e3⟩ := drop_zip (k0 := k0) hlen rr
  have hv : (valV (ks.zip vs) k0).isSome = true := by
    rw [← valV_any, List.any_eq_true]
    obtain ⟨n, hn⟩ := List.mem_iff_getElem?.mp hk
    have hl := (List.getElem?_eq_some_iff.mp hn).1
    refine ⟨(k0, vs[n]'(by omega)), ?_, decide_eq_true rfl⟩
    refine List.mem_iff_getElem?.mpr ⟨n, ?_⟩
    rw [List.getElem?_zip_eq_some]
    exact ⟨hn, List.getElem?_eq_getElem (by omega)⟩
  refine ⟨p, _, k0, rfl, h1, rfl, hv, ?_⟩
  rw [e1]
  have j2 := j1.put (c' := .dk (delK ks k0) (delV ks ds k0)) (o := .dK ((delK ks k0).zip ws)) hi (List.mem_iff_getElem?.mpr ⟨m, hm⟩) ⟨ws, rfl, e2, e3⟩
  rw [putC_set nd hm] at j2
  exact kk _ hΦ _ L0 _ j2
end
end DL
namespace DL
open PySem PySem.Spec PyProof.Rows L2
section
variable {X : Cx} {ρ : En} {o : Expr} {p pos cpos apos : Pos}
theorem itK_get {ks : List Key} {ds : List D} {i : Nat} {d : D} (h : (itK ks ds)[i]? = some d) : ∃ k e, ks[i]? = some k ∧ ds[i]? = some e ∧ d = .tup [kD k, e] := by
  unfold itK at h
  rw [List.getElem?_map, Option.map_eq_some_iff] at h
  obtain ⟨⟨k, e⟩, hz, rfl⟩ := h
  rw [List.getElem?_zip_eq_some] at hz
  exact ⟨k, e, hz.1, hz.2, rfl⟩
theorem eo_listItemsI (i m : Nat) {a0 : Addr} {cs : Cs} {d0 : D} {ks : List Key} {ds : List D} (hc : X.calm = true) (hg : Gl X "list") (hm : X.mg "list" = none) (hi : ρ[i]? = some (.ox cs d0)) (hcm : cs[m]? = some (a0, OC.dk ks ds)) (hkd : ks.length = ds.length) (ho : ED X ρ o (.ad a0)) (hbase : attributeBase o "items" X.env (eval o X.env) = eval o X.env := by rfl) (hline : (apos.endLine == cpos.line) = true := by rfl)
    (hs : starEach [.Call (.Attribute o "items" apos) [] [] cpos] X.env = (false, eval (.Call (.Attribute o "items" apos) [] [] cpos) X.env) :: starEach [] X.env := by rfl) :
    EO X ρ (.Call (.Name "list" p) [.Call (.Attribute o "items" apos) [] [] cpos] [] pos) (.lst (itK ks ds)) := fun B0 B σ H0 H Q j k => by
  refine RE.of (LiI.pe_listItems hc pe_star hg hm (by rfl) hbase hline hs) (ho B0 B σ H0 H _ j fun v G0 G g r => ?_)
  cases (show v = .ref a0 from r)
  have j1 := j.grow g
  obtain ⟨ob, f1, f2, f3, vs, rfl, hl, f4⟩ := j1.cell hi (List.mem_iff_getElem?.mpr ⟨m, hcm⟩)
  refine ⟨a0, _, rfl, f1, fun H' q ts ext n1 n2 n3 eq pr => ?_⟩
  have z0 : ∀ t ∈ ts, G0 t = none := fun t ht => g.sh.free (n2 t ht)
  have q0 : G0 q = none := g.sh.free n1
  obtain ⟨N, hN⟩ : ∃ N : Hp, N = fun b => if b ∈ ts then H' b else G0 b := ⟨_, rfl⟩
  have Nin : ∀ b, b ∈ ts → N b = H' b := fun b hb => by rw [hN]; exact if_pos hb
  have Nout : ∀ b, b ∉ ts → N b = G0 b := fun b hb => by rw [hN]; exact if_neg hb
  have s0 : Same G0 N := fun b u z => by rw [Nout b (fun y => by rw [z0 b y] at z; cases z)]; exact z
  have J1 : JH G0 G N H' := by
    refine ⟨s0, fun b u z => ?_, ext, fun b u z nt z' => ?_⟩
    · by_cases hb : b ∈ ts
      · rw [Nin b hb] at z; exact z
      · rw [Nout b hb] at z; exact ext b u (g.sh b u z)
    · rw [Nout b (fun y => by rw [n2 b y] at z; cases z)]; exact z'
  have lt : ts.length = (ks.zip vs).length := Paired.length pr
  have lz : (ks.zip vs).length = ks.length := by rw [List.length_zip]; omega
  refine k q _ _ _ (g.trans J1) eq (by rw [Nout q n3]; exact q0) (g.sB.free n1) ⟨ts.map V.ref, rfl, ?_⟩
  refine drs_of (by rw [itK_len hkd, List.length_map]; omega) fun n d v hd hv => ?_
  obtain ⟨ky, e, k1, k2, rfl⟩ := itK_get hd
  rw [List.getElem?_map] at hv
  cases ht : ts[n]? with
  | none => rw [ht] at hv; cases hv
  | some t =>
    rw [ht] at hv
    cases hv
    obtain ⟨y, e1, e2⟩ := LiI.paired_get pr ht
    rw [List.getElem?_zip_eq_some] at e1
    obtain ⟨e3, e4⟩ := e1
    rw [k1] at e3
    have hk : ky = y.1 := Option.some.inj e3
    obtain ⟨x, hx, rx⟩ := DRs.get f4 k2
    rw [hx] at e4
    have hx2 : x = y.2 := Option.some.inj e4
    have e5 : N t = some (.tup [kV ky, x]) := by rw [Nin t (List.mem_of_getElem? ht), e2, hk, hx2]
    exact ⟨t, _, rfl, SqT.of e5, kV ky, [x], rfl, kD_dr ky, x, [], rfl, DR.mono s0 _ _ rx, rfl⟩
end
end DL
namespace DL
open PySem PySem.Spec PyProof.Rows L2
theorem dw_keysK {K : PySem.W.Frag} {H0 : Hp} {a : Addr} {od : Obj} {ks : List Key} {vs : List V} (hl : ks.length = vs.length) (h : H0 a = some (.frz od (.dK (ks.zip vs)))) : DWalk K (Itk a od (ks.zip vs)) H0 (ks.map kD) := by
  have hz : (ks.zip vs).length = (ks.map kD).length := by rw [List.length_zip, List.length_map]; omega
  refine ⟨_, _, (by rw [← hz]; exact walk_keys), fun H1 H s1 s2 => s2 _ _ (s1 _ _ h), fun i H1 H x H' d hd s1 s2 y => ?_⟩
  obtain ⟨rfl, k, v, h1, rfl⟩ := y
  obtain ⟨h2, h3⟩ := List.getElem?_zip_eq_some.mp h1
  rw [List.getElem?_map, h2] at hd
  cases hd
  exact ⟨H1, JH.refl s2, kD_dr k⟩
section
variable {X : Cx} {ρ : En} {kx vx : Expr} {ifs : List Expr} {scope : Scope} {cpos : Pos}
/-- {k: v for t in x.f if ..} -/
theorem eo_dcKF (i m : Nat) {x f cn : Str} {ns fs : List Str} {ds : List D} {p1 p2 : Pos} {tg : Expr} {ks : List Key} {es : List D} (own : List (Str × Nat)) (hc : X.calm = true) (hN : X.N.Nodup) (ok : BlkOk X.N X.env.scope scope own) (kl : Kl X.K X.mg cn fs) (hρ : ρ[i]? = some (.sh (.obj cn ns ds))) (hn : ns[m]? = some f) (hdm : ds[m]? = some (.dk ks es)) (ys : List (Option (Key × D))) (hlen : ys.length = ks.length) (nd : ((ys.filterMap id).map (·.1)).Nodup)
    (turn : ∀ (n : Nat) d y, (ks.map kD)[n]? = some d → ys[n]? = some y → TurnDF X ρ scope (own.map (·.2)) tg kx vx ifs d y) (hl : ks.length ≤ sizeLine)
    (hu : (ns.take m).contains f = false := by decide +kernel) (hf : f ∈ fs := by decide +kernel)
    (hNi : X.N[i]? = some x := by rfl) (hv : Vis X.env.scope x := by first | exact Or.inl rfl | exact Or.inr (Or.inl rfl) | exact Or.inr (Or.inr rfl)) (hd : (x == ("__debug__" : Str)) = false := by decide) (hcd : (x == ("__classdict__" : Str)) = false := by decide)
    (hb : attributeBase (.Name x p1) f X.env (eval (.Name x p1) X.env) = eval (.Name x p1) X.env := by rfl)
    (hs : ∀ z, foldedSetIterable (.Attribute (.Name x p1) f p2) X.env z = pure z := by intro _; rfl) : EO X ρ (.DictComp kx vx [⟨tg, .Attribute (.Name x p1) f p2, ifs, 0⟩] scope cpos) (.dk ((ys.filterMap id).map (·.1)) ((ys.filterMap id).map (·.2))) := fun B0 B σ H0 H Q j k => by
  obtain ⟨ov, e1, v, rfl, r0⟩ := j.get hρ
  obtain ⟨ao, C, dx, vs0, rfl, hC, hao, hlen0, hvs0⟩ := r0
  obtain ⟨C', hC', hmc, hcl, hk, hna⟩ := kl.ex
  rw [hC] at hC'; cases hC'
  obtain ⟨v2, hv2, rv2⟩ := DRs.get hvs0 hdm
  obtain ⟨a, vs, rfl, h1, hkl, hres⟩ := rv2
  have hlk := zip_at hn hu hv2
  have run := pe_dc (X := X) (tg := tg) (iter := .Attribute (.Name x p1) f p2) (kx := kx) (vx := vx) (ifs := ifs) (scope := scope) (own := own) (pos := cpos) hc hN pi_star ok (g := GB X scope tg) (tt := TB X scope ifs) (tk := EB X scope kx) (tv := EB X scope vx)
    (fun s H C cl fp => ⟨fun pins s1 σ1 H1 v u Q1 I r h => (pg_star (tg := tg)).run pins s1 σ1 H1 v u Q1 I r (h s H C cl fp)⟩)
    (fun s H C cl fp => ⟨fun pins s1 σ1 H1 Q1 I h => by obtain ⟨t, h1, h2⟩ := h s H C cl fp; exact h1.run pins s1 σ1 H1 Q1 I h2⟩)
    (fun s H C cl fp => ⟨fun pins s1 σ1 H1 Q1 I h => (pe_star (e := kx)).run pins s1 σ1 H1 Q1 I (h s H C cl fp)⟩)
    (fun s H C cl fp => ⟨fun pins s1 σ1 H1 Q1 I h => (pe_star (e := vx)).run pins s1 σ1 H1 Q1 I (h s H C cl fp)⟩) hs
  have hoH := j.same _ _ hao
  rcases h1 with h1 | ⟨od, h1⟩
  · have hH := j.same _ _ h1
    have ne : ao ≠ a := fun z => by rw [z, h1] at hao; cases hao
    refine RE.of (pe_lock run) ⟨a, _, hH, trivial, fun od => ?_⟩
    refine dc_readF (ds := ks.map kD) (fun R hR => ⟨_, pi_keys (pe_fld (pe_var hNi hv hd hcd) hb), .ref ao, e1, ao, C, dx, _, .ref a, rfl, by rw [upd_ne ne]; exact hoH, hcl.cl, hna f hf, hlk, a, od, rfl, .inl ⟨ks.zip vs, upd_same, hR _ _ _ (JH.refl (same_lock j.same)) (dw_keysK hkl upd_same)⟩⟩) ys (by rw [List.length_map]; exact hlen) nd turn (by rw [List.length_map]; exact hl) (j.lockK h1) fun b o L0 L g e2 e3 e4 r => ?_
    obtain ⟨z1, z2, z3⟩ := JH.unlockEK h1 hH g
    have nb : b ≠ a := fun z => by rw [z, upd_same] at e4; cases e4
    rw [upd_ne nb] at e4
    exact ⟨z2, k b o _ _ z3 (by rw [upd_ne nb]; exact e2) (by rw [upd_ne nb]; exact e3) e4 ((fz_unlockK z1).oc r)⟩
  · have hH := j.same _ _ h1
    refine RE.of run ?_
    exact dc_readF (ds := ks.map kD) (fun R hR => ⟨_, pi_keys (pe_fld (pe_var hNi hv hd hcd) hb), .ref ao, e1, ao, C, dx, _, .ref a, rfl, hoH, hcl.cl, hna f hf, hlk, a, od, rfl, .inl ⟨ks.zip vs, hH, hR _ _ _ (JH.refl j.same) (dw_keysK hkl h1)⟩⟩) ys (by rw [List.length_map]; exact hlen) nd turn (by rw [List.length_map]; exact hl) j fun b o L0 L g e2 e3 e4 r => k b o L0 L g e2 e3 e4 r
end
end DL
namespace DL
open PySem PySem.Spec PyProof.Rows L2
theorem eo_showDk {X : Cx} {ρ : En} {e : Expr} (i : Nat) (d' : D) {d0 : D} {cs : Cs} {ks : List Key} {ds : List D} (hi : ρ[i]? = some (.ox cs d0)) (hd : ∀ (K : PySem.W.Frag) (H : Hp) v, (∀ p ∈ cs, DR K H p.2.d (.ref p.1)) → DR K H d0 v → DR K H d' v) (h : EO X (ρ.set i (.sh d')) e (.dk ks ds)) (hf : fltDs ds = true) : EO X ρ e (.dk ks ds) := fun B0 B σ H0 H Q j kk => by
  obtain ⟨H1, j1, s1, r1, n1, z1⟩ := shareAllX j hi
  have hl : i < σ.length := by rw [j.len]; exact (List.getElem?_eq_some_iff.mp hi).1
  obtain ⟨ov, e1, v, e2, r2⟩ := j1.get (i := i) (s := .sh d0) (by rw [List.getElem?_set_self (by rw [← j.len]; exact hl)])
  have j2 := j1.setSl (i := i) (s := .sh d') e1 ⟨v, e2, hd _ _ v r1 r2⟩ fun a w => w.elim
  rw [List.set_set] at j2
  refine h B0 B σ H1 H Q j2 fun a o G0 G g w1 w2 w3 w4 => kk a o (ers G0 (pl cs)) G (g.unshow s1 n1 z1) w1 ?_ w3 ?_
  · by_cases m : a ∈ pl cs
    · exact ers_in m
    · rw [ers_out m]; exact w2
  · obtain ⟨vs, rfl, hvl, r⟩ := w4
    exact ⟨vs, rfl, hvl, DRs.flat hf r⟩
end DL
namespace DL
open PySem PySem.Spec PyProof.Rows L2
section
variable {X : Cx} {ρ : En} {pos : Pos} {elt tg iter : Expr} {ifs : List Expr} {scope : Scope} {ds : List D} {cpos : Pos} {α β : Type} {Φ : Out → Prop}
theorem ws_setFilter2S (n : Nat) (d' : D) {d0 : D} {cs : Cs} (hn : ρ[n]? = some (.ox cs d0)) (hd : ∀ (K : PySem.W.Frag) (H : Hp) v, (∀ p ∈ cs, DR K H p.2.d (.ref p.1)) → DR K H d0 v → DR K H d' v) (i : Nat) (own : List (Str × Nat)) (xs : List α) (enc : α → D) (p : α → Bool) (f : α → D) {y : Str} {py : Pos} (hc : X.calm = true) (hN : X.N.Nodup) (ok : BlkOk X.N X.env.scope scope own) (hi : ID X (ρ.set n (.sh d')) tg iter ds) (he : ds = xs.map enc) (turn : ∀ x ∈ xs, Turn1 X (ρ.set n (.sh d')) scope (own.map (·.2)) tg elt ifs (enc x) (if p x = true then some (f x) else none)) (hl : xs.length ≤ sizeLine)
    (hΦ : Φ (.nx (ρ.set i (.ow (.lst ((xs.filter p).map f)))))) (hf : ∀ x, fltD (f x) = true := by intro _; rfl) (hy : X.N[i]? = some y := by rfl) (hyl : X.env.scope.names.lookup y = some .local := by rfl)
    (hsw : swapsWith (.ListComp elt [⟨tg, iter, ifs, 0⟩] scope cpos) (some (.Name y py)) pos.line X.env = pure true := by exact sw_true rfl rfl rfl (by decide +kernel)) (hs : ∀ x, foldedSetIterable iter X.env x = pure x := by intro _; rfl) :
    WS X (.Assign [.Name y py] (.ListComp elt [⟨tg, iter, ifs, 0⟩] scope cpos) pos) ρ Φ := fun B0 B σ H0 H Dn j k => by
  obtain ⟨H1, j1, s1, r1, n1, z1⟩ := shareAllX j hn
  have hl1 : n < σ.length := by rw [j.len]; exact (List.getElem?_eq_some_iff.mp hn).1
  obtain ⟨ov, e1, v, e2, r2⟩ := j1.get (i := n) (s := .sh d0) (by rw [List.getElem?_set_self (by rw [← j.len]; exact hl1)])
  have j2 := j1.setSl (i := n) (s := .sh d') e1 ⟨v, e2, hd _ _ v r1 r2⟩ fun a w => w.elim
  rw [List.set_set] at j2
  refine ⟨_, ps_setLc hc hN hy hyl hsw pi_star ok (g := GB X scope tg) (tt := TB X scope ifs) (te := EB X scope elt)
    (fun s H C cl fp => ⟨fun pins s1 σ1 H1 v u Q1 I r h => (pg_star (tg := tg)).run pins s1 σ1 H1 v u Q1 I r (h s H C cl fp)⟩)
    (fun s H C cl fp => ⟨fun pins s1 σ1 H1 Q1 I h => by obtain ⟨t, h1, h2⟩ := h s H C cl fp; exact h1.run pins s1 σ1 H1 Q1 I h2⟩)
    (fun s H C cl fp => ⟨fun pins s1 σ1 H1 Q1 I h => (pe_star (e := elt)).run pins s1 σ1 H1 Q1 I (h s H C cl fp)⟩) hs,
   lc_read hi (xs.map fun x => if p x = true then some (f x) else none) (by rw [he]; simp) (turns_if he turn) (by rw [he]; simpa using hl) j2 fun a o G0 G gg h1 h2 h3 r => ?_⟩
  rw [filterMap_if] at r
  refine k _ hΦ _ (ers G0 (pl cs)) G (j.setNew (gg.unshow s1 n1 z1) h1 ?_ h3 ?_)
  · by_cases m : a ∈ pl cs
    · exact ers_in m
    · rw [ers_out m]; exact h2
  · obtain ⟨vs, rfl, r⟩ := r
    exact ⟨vs, rfl, DRs.flat (fltDs_map hf _) r⟩
end
theorem dwj_itemsK {K : PySem.W.Frag} {H0 H : Hp} {a : Addr} {od : Obj} {ks : List Key} {ds : List D} {vs : List V} (h : H a = some (.frz od (.dK (ks.zip vs)))) (hl : ks.length = vs.length) (r : DRs K H0 ds vs) : DWalkJ K (Iti a od (ks.zip vs)) H0 H (itK ks ds) := by
  have hds : ks.length = ds.length := by rw [hl, DRs.length r]
  have hz : (ks.zip vs).length = (itK ks ds).length := by rw [itK_len hds, List.length_zip]; omega
  refine ⟨_, _, (by rw [← hz]; exact walk_itemsK), fun L0 L g => g.sB _ _ h, fun i L0 L x L' d hd g y => ?_⟩
  obtain ⟨T, k, v, h1, rfl, h3, rfl⟩ := y
  obtain ⟨hk, hv⟩ := zip_get h1
  obtain ⟨k', d', hk', hd', rfl⟩ := itK_get hd
  rw [hk] at hk'; cases hk'
  obtain ⟨v', hv', rv⟩ := DRs.get r hd'
  rw [hv] at hv'; cases hv'
  have g2 : JH L0 L (upd L0 T (.tup [kV k, v])) (upd L T (.tup [kV k, v])) := JH.new g.sh h3
  exact ⟨_, g2, T, _, rfl, SqT.of upd_same, kV k, [v], rfl, kD_dr k, v, [], rfl, DR.mono (g.s0.trans g2.s0) _ _ rv, rfl⟩
section
variable {X : Cx} {ρ : En} {elt : Expr} {ifs : List Expr} {scope : Scope} {cpos : Pos}
theorem eo_lcItKF (i m : Nat) {x f cn : Str} {ns fs : List Str} {ds : List D} {p1 p2 apos ipos : Pos} {elts : List Expr} {kk : Nat} {tpos : Pos} {ks : List Key} {es : List D} (own : List (Str × Nat)) (hc : X.calm = true) (hN : X.N.Nodup) (ok : BlkOk X.N X.env.scope scope own) (kl : Kl X.K X.mg cn fs) (hρ : ρ[i]? = some (.sh (.obj cn ns ds))) (hn : ns[m]? = some f) (hdm : ds[m]? = some (.dk ks es)) (ys : List (Option D)) (hlen : ys.length = ks.length)
    (turn : ∀ (n : Nat) d y, (itK ks es)[n]? = some d → ys[n]? = some y → Turn1 X ρ scope (own.map (·.2)) (.Tuple elts kk tpos) elt ifs d y) (hl : ks.length ≤ sizeLine)
    (hu : (ns.take m).contains f = false := by decide +kernel) (hf : f ∈ fs := by decide +kernel)
    (hNi : X.N[i]? = some x := by rfl) (hv : Vis X.env.scope x := by first | exact Or.inl rfl | exact Or.inr (Or.inl rfl) | exact Or.inr (Or.inr rfl)) (hd : (x == ("__debug__" : Str)) = false := by decide) (hcd : (x == ("__classdict__" : Str)) = false := by decide)
    (hb : attributeBase (.Name x p1) f X.env (eval (.Name x p1) X.env) = eval (.Name x p1) X.env := by rfl)
    (hbase : attributeBase (.Attribute (.Name x p1) f p2) "items" X.env (eval (.Attribute (.Name x p1) f p2) X.env) = eval (.Attribute (.Name x p1) f p2) X.env := by rfl) (hline : (apos.endLine == ipos.line) = true := by rfl)
    (hs : ∀ z, foldedSetIterable (.Call (.Attribute (.Attribute (.Name x p1) f p2) "items" apos) [] [] ipos) X.env z = pure z := by intro _; rfl) : EO X ρ (.ListComp elt [⟨.Tuple elts kk tpos, .Call (.Attribute (.Attribute (.Name x p1) f p2) "items" apos) [] [] ipos, ifs, 0⟩] scope cpos) (.lst (ys.filterMap id)) := fun B0 B σ H0 H Q j k => by
  obtain ⟨ov, e1, v, rfl, r0⟩ := j.get hρ
  obtain ⟨ao, C, dx, vs0, rfl, hC, hao, hlen0, hvs0⟩ := r0
  obtain ⟨C', hC', hmc, hcl, hk, hna⟩ := kl.ex
  rw [hC] at hC'; cases hC'
  obtain ⟨v2, hv2, rv2⟩ := DRs.get hvs0 hdm
  obtain ⟨a, vs, rfl, h1, hkl, hres⟩ := rv2
  have hds : ks.length = es.length := by rw [hkl, DRs.length hres]
  have hlk := zip_at hn hu hv2
  have run := pe_lc (X := X) (tg := .Tuple elts kk tpos) (iter := .Call (.Attribute (.Attribute (.Name x p1) f p2) "items" apos) [] [] ipos) (elt := elt) (ifs := ifs) (scope := scope) (own := own) (pos := cpos) hc hN pi_star ok (g := GB X scope (.Tuple elts kk tpos)) (tt := TB X scope ifs) (te := EB X scope elt)
    (fun s H C cl fp => ⟨fun pins s1 σ1 H1 v u Q1 I r h => (pg_star (tg := .Tuple elts kk tpos)).run pins s1 σ1 H1 v u Q1 I r (h s H C cl fp)⟩)
    (fun s H C cl fp => ⟨fun pins s1 σ1 H1 Q1 I h => by obtain ⟨t, h1, h2⟩ := h s H C cl fp; exact h1.run pins s1 σ1 H1 Q1 I h2⟩)
    (fun s H C cl fp => ⟨fun pins s1 σ1 H1 Q1 I h => (pe_star (e := elt)).run pins s1 σ1 H1 Q1 I (h s H C cl fp)⟩) hs
  have hoH := j.same _ _ hao
  rcases h1 with h1 | ⟨od, h1⟩
  · have hH := j.same _ _ h1
    have ne : ao ≠ a := fun z => by rw [z, h1] at hao; cases hao
    refine RE.of (pe_lock run) ⟨a, _, hH, trivial, fun od => ?_⟩
    refine lc_readJ (ds := itK ks es) (fun R hR => ⟨_, pi_items (pe_fld (pe_var hNi hv hd hcd) hb) hbase hline, .ref ao, e1, ao, C, dx, _, .ref a, rfl, by rw [upd_ne ne]; exact hoH, hcl.cl, hna f hf, hlk, a, od, _, rfl, upd_same, hR _ _ _ (JH.refl (same_lock j.same)) (dwj_itemsK upd_same hkl ((fz_lockK h1).drs _ _ hres))⟩) ys (by rw [itK_len hds]; exact hlen) turn (by rw [itK_len hds]; exact hl) (j.lockK h1) fun b o L0 L g e2 e3 e4 r => ?_
    obtain ⟨z1, z2, z3⟩ := JH.unlockEK h1 hH g
    have nb : b ≠ a := fun z => by rw [z, upd_same] at e4; cases e4
    rw [upd_ne nb] at e4
    exact ⟨z2, k b o _ _ z3 (by rw [upd_ne nb]; exact e2) (by rw [upd_ne nb]; exact e3) e4 ((fz_unlockK z1).oc r)⟩
  · have hH := j.same _ _ h1
    refine RE.of run ?_
    exact lc_readJ (ds := itK ks es) (fun R hR => ⟨_, pi_items (pe_fld (pe_var hNi hv hd hcd) hb) hbase hline, .ref ao, e1, ao, C, dx, _, .ref a, rfl, hoH, hcl.cl, hna f hf, hlk, a, od, _, rfl, hH, hR _ _ _ (JH.refl j.same) (dwj_itemsK hH hkl hres)⟩) ys (by rw [itK_len hds]; exact hlen) turn (by rw [itK_len hds]; exact hl) j fun b o L0 L g e2 e3 e4 r => k b o L0 L g e2 e3 e4 r
end
end DL
namespace DL
open PySem PySem.Spec PyProof.Rows L2
/-- what an index of a layer holds: boxes by number, what the tree was made of, what came since -/
structure IxS where
  bx : List TRow
  it : List TRow
  lt : List TRow
def kNx (e : TRow) : Key := Sum.inl e.1
def bEx (e : TRow) : D := e.2.e
def tTx (_ : TRow) : D := .bl true
abbrev ixNm : List Str := ["_boxes", "_in_tree", "_late", "_tree"]
noncomputable def ixCs (x p q r : Addr) (I : IxS) : Cs := [(x, .ins "LayerIndex" ixNm [.ad p, .ad q, .ad r, trD (build 3 I.it)]), (p, .dk (I.bx.map kNx) (I.bx.map bEx)), (q, .dk (I.it.map kNx) (I.it.map tTx)), (r, .dk (I.lt.map kNx) (I.lt.map bEx))]
noncomputable def ixO (I : IxS) : D := .obj "LayerIndex" ixNm [.dk (I.bx.map kNx) (I.bx.map bEx), .dk (I.it.map kNx) (I.it.map tTx), .dk (I.lt.map kNx) (I.lt.map bEx), trD (build 3 I.it)]
def hasN (l : List TRow) (n : Int) : Bool := decide (n ∈ l.map (·.1))
theorem has_nx (l : List TRow) (n : Int) : hasK (l.map kNx) (.inl n) = hasN l n := by
  unfold hasN
  rw [Bool.eq_iff_iff, hasK_iff, decide_eq_true_iff, List.mem_map, List.mem_map]
  constructor
  · rintro ⟨e, h, q⟩; exact ⟨e, h, by unfold kNx at q; exact Sum.inl.inj q⟩
  · rintro ⟨e, h, q⟩; exact ⟨e, h, by unfold kNx; rw [q]⟩
theorem mem_nx {l : List TRow} {n : Int} : (Sum.inl n : Key) ∈ l.map kNx ↔ hasN l n = true := by rw [← has_nx, hasK_iff]
def IxS.put (I : IxS) (n : Int) (b : Bx) : IxS := ⟨I.bx ++ [(n, b)], I.it, if hasN I.it n = true then I.lt else I.lt ++ [(n, b)]⟩
def delR (l : List TRow) (n : Int) : List TRow := l.filter fun e => decide (e.1 ≠ n)
def IxS.out (I : IxS) (n : Int) : IxS := ⟨delR I.bx n, I.it, delR I.lt n⟩
theorem delK_nx (n : Int) : ∀ l : List TRow, delK (l.map kNx) (.inl n) = (delR l n).map kNx
  | [] => rfl
  | e :: l => by
    have ih := delK_nx n l
    unfold delK delR at *
    rw [List.map_cons]
    by_cases h : e.1 = n
    · have h1 : kNx e = Sum.inl n := by unfold kNx; rw [h]
      rw [List.filter_cons_of_neg (by simp [h1]), List.filter_cons_of_neg (by simp [h])]; exact ih
    · have h1 : ¬ kNx e = Sum.inl n := fun z => h (Sum.inl.inj z)
      rw [List.filter_cons_of_pos (by simp [h1]), List.filter_cons_of_pos (by simp [h]), List.map_cons, ih]
theorem delV_nx (f : TRow → D) (n : Int) : ∀ l : List TRow, delV (l.map kNx) (l.map f) (.inl n) = (delR l n).map f
  | [] => rfl
  | e :: l => by
    have ih := delV_nx f n l
    unfold delR at *
    rw [List.map_cons, List.map_cons]
    unfold delV
    by_cases h : e.1 = n
    · rw [if_pos (by unfold kNx; rw [h]), List.filter_cons_of_neg (by simp [h])]; exact ih
    · rw [if_neg (show ¬ kNx e = Sum.inl n from fun z => h (Sum.inl.inj z)), List.filter_cons_of_pos (by simp [h]), List.map_cons, ih]
theorem delR_no {l : List TRow} {n : Int} (h : hasN l n = false) : delR l n = l := by
  unfold delR
  rw [List.filter_eq_self]
  intro e he
  refine decide_eq_true fun z => ?_
  have := of_decide_eq_false h
  exact this (List.mem_map.mpr ⟨e, he, z⟩)
theorem ix_show {K : PySem.W.Frag} {H : Hp} {x p q r : Addr} {I : IxS} (v : V) (h : ∀ y ∈ ixCs x p q r I, DR K H y.2.d (.ref y.1)) (w : DR K H (.ad x) v) : DR K H (ixO I) v := by
  cases (show v = .ref x from w)
  refine obj_imp (h _ (List.mem_cons_self ..)) rfl fun i d e h1 h2 u w => ?_
  match i, h1, h2 with
  | 0, h1, h2 => cases h1; cases h2; cases (show u = .ref p from w); exact h (p, .dk (I.bx.map kNx) (I.bx.map bEx)) (List.mem_cons_of_mem _ (List.mem_cons_self ..))
  | 1, h1, h2 => cases h1; cases h2; cases (show u = .ref q from w); exact h (q, .dk (I.it.map kNx) (I.it.map tTx)) (List.mem_cons_of_mem _ (List.mem_cons_of_mem _ (List.mem_cons_self ..)))
  | 2, h1, h2 => cases h1; cases h2; cases (show u = .ref r from w); exact h (r, .dk (I.lt.map kNx) (I.lt.map bEx)) (List.mem_cons_of_mem _ (List.mem_cons_of_mem _ (List.mem_cons_of_mem _ (List.mem_cons_self ..))))
  | 3, h1, h2 => cases h1; cases h2; exact w
  | i + 4, h1, h2 => simp at h1
/-- an index in order: numbers stand once, the boxes are those of f -/
structure IxOk (f : Int → Bx) (I : IxS) : Prop where
  bf : ∀ e ∈ I.bx, e.2 = f e.1
  tf : ∀ e ∈ I.it, e.2 = f e.1
  lf : ∀ e ∈ I.lt, e.2 = f e.1
  bn : (I.bx.map (·.1)).Nodup
  tn : (I.it.map (·.1)).Nodup
  ln : (I.lt.map (·.1)).Nodup
  lb : ∀ e ∈ I.lt, hasN I.bx e.1 = true ∧ hasN I.it e.1 = false
  bl : ∀ e ∈ I.bx, hasN I.it e.1 = true ∨ hasN I.lt e.1 = true
theorem hasN_mem {l : List TRow} {e : TRow} (h : e ∈ l) : hasN l e.1 = true := decide_eq_true (List.mem_map.mpr ⟨e, h, rfl⟩)
theorem hasN_app (l k : List TRow) (n : Int) : hasN (l ++ k) n = (hasN l n || hasN k n) := by
  rw [Bool.eq_iff_iff, Bool.or_eq_true]
  unfold hasN
  rw [decide_eq_true_iff, decide_eq_true_iff, decide_eq_true_iff, List.map_append, List.mem_append]
theorem hasN_one (n m : Int) (b : Bx) : hasN [(n, b)] m = decide (m = n) := by unfold hasN; simp
theorem hasN_del (l : List TRow) (n m : Int) : hasN (delR l n) m = (hasN l m && decide (m ≠ n)) := by
  rw [Bool.eq_iff_iff, Bool.and_eq_true]
  unfold hasN delR
  rw [decide_eq_true_iff, decide_eq_true_iff, decide_eq_true_iff, List.mem_map, List.mem_map]
  constructor
  · rintro ⟨e, h, rfl⟩
    rw [List.mem_filter, decide_eq_true_iff] at h
    exact ⟨⟨e, h.1, rfl⟩, h.2⟩
  · rintro ⟨⟨e, h, rfl⟩, q⟩
    exact ⟨e, List.mem_filter.mpr ⟨h, decide_eq_true q⟩, rfl⟩
theorem IxOk.put {f : Int → Bx} {I : IxS} (ok : IxOk f I) {n : Int} (hn : hasN I.bx n = false) : IxOk f (I.put n (f n)) := by
  have hl : hasN I.lt n = false := by
    cases e : hasN I.lt n with
    | false => rfl
    | true =>
      obtain ⟨e1, h1, rfl⟩ := List.mem_map.mp (of_decide_eq_true e)
      rw [(ok.lb e1 h1).1] at hn; cases hn
  have nd : ∀ {l : List TRow}, (l.map (·.1)).Nodup → hasN l n = false → ((l ++ [(n, f n)]).map (·.1)).Nodup := fun {l} h1 h2 => by
    rw [List.map_append, List.nodup_append]
    refine ⟨h1, by simp, fun a ha b hb e => ?_⟩
    rw [List.map_cons, List.map_nil, List.mem_singleton] at hb
    have hb2 : b = n := hb
    exact of_decide_eq_false h2 (by rw [← hb2, ← e]; exact ha)
  have app : ∀ {l : List TRow}, (∀ e ∈ l, e.2 = f e.1) → ∀ e ∈ l ++ [(n, f n)], e.2 = f e.1 := fun {l} h e he => by
    rcases List.mem_append.mp he with he | he
    · exact h e he
    · rw [List.mem_singleton.mp he]
  unfold IxS.put
  by_cases q : hasN I.it n = true
  · rw [if_pos q]
    refine ⟨app ok.bf, ok.tf, ok.lf, nd ok.bn hn, ok.tn, ok.ln, fun e he => ?_, fun e he => ?_⟩
    · exact ⟨by rw [hasN_app, (ok.lb e he).1]; rfl, (ok.lb e he).2⟩
    · rcases List.mem_append.mp he with he | he
      · exact ok.bl e he
      · rw [List.mem_singleton.mp he]; exact .inl q
  · rw [if_neg q]
    have q' : hasN I.it n = false := by cases h : hasN I.it n with | false => rfl | true => exact absurd h q
    refine ⟨app ok.bf, ok.tf, app ok.lf, nd ok.bn hn, ok.tn, nd ok.ln hl, fun e he => ?_, fun e he => ?_⟩
    · rcases List.mem_append.mp he with he | he
      · exact ⟨by rw [hasN_app, (ok.lb e he).1]; rfl, (ok.lb e he).2⟩
      · rw [List.mem_singleton.mp he]; exact ⟨by rw [hasN_app, hasN_one]; simp, q'⟩
    · rcases List.mem_append.mp he with he | he
      · rcases ok.bl e he with h | h
        · exact .inl h
        · exact .inr (by rw [hasN_app, h]; rfl)
      · rw [List.mem_singleton.mp he]; exact .inr (by rw [hasN_app, hasN_one]; simp)
theorem IxOk.out {f : Int → Bx} {I : IxS} (ok : IxOk f I) (n : Int) : IxOk f (I.out n) := by
  have nd : ∀ {l : List TRow}, (l.map (·.1)).Nodup → ((delR l n).map (·.1)).Nodup := fun {l} h => h.sublist (List.Sublist.map _ List.filter_sublist)
  have me : ∀ {l : List TRow} {e : TRow}, e ∈ delR l n → e ∈ l ∧ e.1 ≠ n := fun {l e} h => by
    unfold delR at h
    rw [List.mem_filter, decide_eq_true_iff] at h
    exact h
  refine ⟨fun e he => ok.bf e (me he).1, ok.tf, fun e he => ok.lf e (me he).1, nd ok.bn, ok.tn, nd ok.ln, fun e he => ?_, fun e he => ?_⟩
  · obtain ⟨h1, h2⟩ := me he
    exact ⟨by show hasN (delR I.bx n) e.1 = true; rw [hasN_del, (ok.lb e h1).1, decide_eq_true h2]; rfl, (ok.lb e h1).2⟩
  · obtain ⟨h1, h2⟩ := me he
    rcases ok.bl e h1 with h | h
    · exact .inl h
    · exact .inr (by show hasN (delR I.lt n) e.1 = true; rw [hasN_del, h, decide_eq_true h2]; rfl)
/-- the tree is made anew -/
def IxS.new (I : IxS) : IxS := ⟨I.bx, I.bx, []⟩
theorem IxOk.new {f : Int → Bx} {I : IxS} (ok : IxOk f I) : IxOk f I.new := ⟨ok.bf, ok.bf, fun e h => (by cases h), ok.bn, ok.bn, List.nodup_nil, fun e h => (by cases h), fun e he => .inl (hasN_mem he)⟩
def IxS.far (I : IxS) : Bool := decide ((8 : Int) + (I.it.length : Int) / 8 < ((I.it.length : Int) + (I.lt.length : Int) - (I.bx.length : Int)) + (I.lt.length : Int))
def IxS.fresh (I : IxS) : IxS := if I.far = true then I.new else I
theorem ix_showT {K : PySem.W.Frag} {H : Hp} {x p q r : Addr} {I : IxS} {T : D} (v : V) (h : ∀ y ∈ ([(x, .ins "LayerIndex" ixNm [.ad p, .ad q, .ad r, T]), (p, .dk (I.bx.map kNx) (I.bx.map bEx)), (q, .dk (I.it.map kNx) (I.it.map tTx)), (r, .dk (I.lt.map kNx) (I.lt.map bEx))] : Cs), DR K H y.2.d (.ref y.1)) (w : DR K H (.ad x) v) : DR K H (.obj "LayerIndex" ixNm [.dk (I.bx.map kNx) (I.bx.map bEx), .dk (I.it.map kNx) (I.it.map tTx), .dk (I.lt.map kNx) (I.lt.map bEx), T]) v := by
  cases (show v = .ref x from w)
  refine obj_imp (h _ (List.mem_cons_self ..)) rfl fun i d e h1 h2 u w => ?_
  match i, h1, h2 with
  | 0, h1, h2 => cases h1; cases h2; cases (show u = .ref p from w); exact h (p, .dk (I.bx.map kNx) (I.bx.map bEx)) (List.mem_cons_of_mem _ (List.mem_cons_self ..))
  | 1, h1, h2 => cases h1; cases h2; cases (show u = .ref q from w); exact h (q, .dk (I.it.map kNx) (I.it.map tTx)) (List.mem_cons_of_mem _ (List.mem_cons_of_mem _ (List.mem_cons_self ..)))
  | 2, h1, h2 => cases h1; cases h2; cases (show u = .ref r from w); exact h (r, .dk (I.lt.map kNx) (I.lt.map bEx)) (List.mem_cons_of_mem _ (List.mem_cons_of_mem _ (List.mem_cons_of_mem _ (List.mem_cons_self ..))))
  | 3, h1, h2 => cases h1; cases h2; exact w
  | i + 4, h1, h2 => simp at h1
theorem trD_eq (t : Tr) : trD t = .obj "Tree" ["_rows", "_hull", "_parts"] (trF t) := by cases t <;> rfl
theorem flt_tT : ∀ l : List TRow, fltDs (l.map tTx) = true
  | [] => rfl
  | e :: l => by show (fltD (.bl true) && fltDs (l.map tTx)) = true; rw [flt_tT l]; rfl
theorem kNx_nd {l : List TRow} (h : (l.map (·.1)).Nodup) : (l.map kNx).Nodup := by
  rw [List.nodup_iff_pairwise_ne, List.pairwise_map] at h ⊢
  exact h.imp fun {a b} q z => q (Sum.inl.inj z)
theorem itK_nx (l : List TRow) : itK (l.map kNx) (l.map bEx) = l.map rwE := by
  unfold itK
  induction l with
  | nil => rfl
  | cons e l ih => rw [List.map_cons, List.map_cons, List.map_cons, List.zip_cons_cons, List.map_cons, ih]; rfl
theorem ys_nx (l : List TRow) : (((l.map fun e => some ((kNx e, D.bl true) : Key × D)).filterMap id).map (·.1)) = l.map kNx ∧ (((l.map fun e => some ((kNx e, D.bl true) : Key × D)).filterMap id).map (·.2)) = l.map tTx := by
  induction l with
  | nil => exact ⟨rfl, rfl⟩
  | cons e l ih =>
    obtain ⟨h1, h2⟩ := ih
    refine ⟨?_, ?_⟩
    · show kNx e :: _ = kNx e :: _
      rw [← h1]
    · show D.bl true :: _ = D.bl true :: _
      rw [← h2]
theorem IxOk.fresh {f : Int → Bx} {I : IxS} (ok : IxOk f I) : IxOk f I.fresh := by unfold IxS.fresh; split; exact ok.new; exact ok
theorem fresh_bx (I : IxS) : I.fresh.bx = I.bx := by unfold IxS.fresh IxS.new; split <;> rfl
theorem row_of {f : Int → Bx} {l : List TRow} (h : ∀ e ∈ l, e.2 = f e.1) {n : Int} (hn : hasN l n = true) : (n, f n) ∈ l := by
  obtain ⟨e, he, rfl⟩ := List.mem_map.mp (of_decide_eq_true hn)
  rw [← h e he]; exact he
/-- what find finds: the numbers of the boxes that the window hits -/
theorem ix_found {f : Int → Bx} {J : IxS} (ok : IxOk f J) {w : Bx} : srtI (((fnd w (build 3 J.it)).filter fun z => hasN J.bx z) ++ (J.lt.filter fun e => hitB e.2 w).map (·.1)) = srtI ((J.bx.filter fun e => hitB e.2 w).map (·.1)) := by
  have fl : ∀ {l : List TRow}, (l.map (·.1)).Nodup → ((l.filter fun e => hitB e.2 w).map (·.1)).Nodup := fun {l} h => h.sublist (List.Sublist.map _ List.filter_sublist)
  have pf : (fnd w (build 3 J.it)).Perm ((J.it.filter fun r => hitB r.2 w).map (·.1)) := by rw [fnd_build]; exact srtI_perm _
  have nd1 : ((fnd w (build 3 J.it)).filter fun z => hasN J.bx z).Nodup := List.Pairwise.filter _ ((pf.nodup_iff).mpr (fl ok.tn))
  have mem : ∀ {l : List TRow}, (∀ e ∈ l, e.2 = f e.1) → ∀ n, n ∈ (l.filter fun e => hitB e.2 w).map (·.1) ↔ hasN l n = true ∧ hitB (f n) w = true := fun {l} h n => by
    rw [List.mem_map]
    constructor
    · rintro ⟨e, he, rfl⟩
      rw [List.mem_filter] at he
      exact ⟨hasN_mem he.1, by rw [← h e he.1]; exact he.2⟩
    · rintro ⟨h1, h2⟩
      exact ⟨(n, f n), List.mem_filter.mpr ⟨row_of h h1, h2⟩, rfl⟩
  refine srtI_eq ((srtI_perm _).trans ?_) (srtI_srt _)
  rw [List.perm_ext_iff_of_nodup (List.nodup_append.mpr ⟨nd1, fl ok.ln, fun a ha b hb e => ?_⟩) (fl ok.bn)]
  · intro n
    rw [List.mem_append, List.mem_filter, pf.mem_iff, mem ok.tf, mem ok.lf, mem ok.bf]
    constructor
    · rintro (⟨⟨_, h2⟩, h3⟩ | ⟨h1, h2⟩)
      · exact ⟨h3, h2⟩
      · exact ⟨(ok.lb _ (row_of ok.lf h1)).1, h2⟩
    · rintro ⟨h1, h2⟩
      rcases ok.bl _ (row_of ok.bf h1) with h | h
      · exact .inl ⟨⟨h, h2⟩, h1⟩
      · exact .inr ⟨h, h2⟩
  · subst e
    rw [List.mem_filter, pf.mem_iff, mem ok.tf] at ha
    rw [mem ok.lf] at hb
    have := (ok.lb _ (row_of ok.lf hb.1)).2
    rw [ha.1.1] at this; cases this
end DL
theorem L2H.RoomH.units {k : Nat} {A : PySem.Around} (r : L2H.RoomH k A) : A.units + 64 < PySem.cLine := by have := r.un; omega
namespace DL
open PySem PySem.Spec PyProof.Rows L2
theorem eo_meth0 {X : Cx} {ρ : En} {pos : Pos} {o : Expr} {apos : Pos} {cn m : Str} {k : Nat} {R : List D → OC → Prop} {fds : List D} {ns : List Str} {c : OC} {pl : Sem Bool} (G : FnMO X.prog X.w X.K X.mg X.base cn m k R) (hr : Room k X.A) (ho : ED X ρ o (.obj cn ns fds)) (hR : R [.obj cn ns fds] c)
    (hm : ns.contains m = false := by decide +kernel)
    (ht : eval (.Call (.Attribute o m apos) [] [] pos) X.env = (do
      let ov ← eval o X.env
      standAt apos.atName
      let (f, first) ← holding [ov] (getMethod ov m pl)
      callWith pos f first (backTo pos (starEach [] X.env)) (backToKw pos (keywordEach [] X.env))) := by rfl) :
    EO X ρ (.Call (.Attribute o m apos) [] [] pos) c := fun B0 B σ H0 H Q j kk => by
  obtain ⟨C, f, fd, ps, hC, hc, hmt, F, hb⟩ := G.ex
  refine RE.of (pe_meth0 (E := E0) pe_star hc hmt F hr hb .nil pass0 ht) (ho B0 B σ H0 H _ j fun v G0 G g r => ?_)
  obtain ⟨a, C', dx, vs, rfl, hC', hA, hlen, hvs⟩ := id r
  rw [hC] at hC'; cases hC'
  refine ⟨a, dx, _, rfl, g.sh _ _ hA, zip_none hm, ?_⟩
  exact ⟨G0, [.obj cn ns fds], c, g.sh, ⟨_, _, rfl, r, rfl⟩, hR, fun b o M0 M g3 e1 e2 e3 r3 => kk b o M0 M (g.trans g3) e1 e2 (g.sB.free e3) r3⟩
end DL
namespace DL
open PySem PySem.Spec PyProof.Rows L2
section
variable {X : Cx}
theorem run_in1 {CX : CXT} {pins : List (Addr × Obj)} {σ : L2.St} {H : Hp} {s : Shared} {g : Addr} {n : Nat} {sp : Sp} {E : XK} {A : Around} {Q : VK} {us : List Value} {ws : List V} (F : FnR X.prog X.w X.K X.mg X.base CX n g sp) (hr : Room n A) (e0 : Env0 X.prog X.w X.K X.mg X.base A X.stack s H) (hx : Passes CX X E) (I : L2.Inv X pins σ H s) (r : Vals ws us) (h : sp ws H Q E) :
    codeAny (model X.prog X.w) A (.call (.ref g) ⟨us, []⟩) (fun r s' => match r with | .ok (.ret v) => L2.EP X pins σ Q v s' | .ok _ => False | .error e => X.xe e s') s := by
  refine codeAny_mono (F A X.stack s H us ws Q E hr e0 r h) fun r s' hq => ?_
  cases r with
  | error e => exact hx pins σ H s e s' I hq
  | ok fl =>
    cases fl with
    | ret u => exact I.after hq
    | next => exact False.elim hq
    | brk => exact False.elim hq
    | cont => exact False.elim hq
theorem call_lenI {C g : Addr} {n : Nat} {sp : Sp} {E : XK} (hs : PySem.W.findIn X.K (.ref C) "__len__" = some (some (.ref g))) (hf : PySem.W.isFn X.K (.ref g) = true) (F : FnR X.prog X.w X.K X.mg X.base CX0 n g sp) (hr : Room (n + 1) X.A) (hx : Passes CX0 X E) :
    CallR X (.builtin "len") (fun xs H Q => ∃ a dx fs, xs = [V.ref a] ∧ H a = some (.ins C dx fs) ∧ sp [.ref a] H (fun z H' => ∃ i : Int, z = .int i ∧ (0 ≤ i ∧ i < 2 ^ 63) ∧ Q z H') E) := by
  intro pins s σ H xs us Q I r h
  obtain ⟨a, dx, fs, rfl, ha, q⟩ := h
  obtain ⟨u, rfl, ru⟩ := r.one
  cases (show u = Value.ref a from ru)
  obtain ⟨mA, J, _⟩ := ins_get I.hok ha
  obtain ⟨od, J, _⟩ := J.look
  obtain ⟨m, hF⟩ := I.fr
  refine PySem.W.len_K hF I.ok.mod.kin J hs hf (wpAny_mono (wpAny_call (run_in1 (us := [.ref a]) (ws := [.ref a]) F (Room.in1 hr) I.env0.in1 hx I (.cons rfl .nil) q)) (fun w s' z => ?_) fun _ _ x => x)
  obtain ⟨z', H', I', rz, i, ei, ⟨h0, h1⟩, qz⟩ := z
  subst ei
  obtain ⟨t, e⟩ := (show ∃ t, w = Value.int i t from rz)
  cases e
  exact ⟨⟨h0, h1⟩, .int i, H', I'.kept (t' := s'.toks + 1) (fun b o e => e), ⟨_, rfl⟩, qz⟩
theorem bc_lenObj {cn : Str} {k : Nat} {R : List D → D → Prop} {ns : List Str} {ds : List D} {i : Int} (G : FnM X.prog X.w X.K X.mg X.base cn "__len__" k R) (hr : Room (k + 1) X.A) (hR : R [.obj cn ns ds] (.int i)) (hi : 0 ≤ i ∧ i < 2 ^ 63) : BC X (.builtin "len") [.obj cn ns ds] (.int i) := by
  obtain ⟨C, g, fd, ps, hC, hc, hmt, F, hb⟩ := G.ex
  refine ⟨_, call_lenI hmt.at_ hmt.fn (F.raw hb .nil) hr pass0, ?_⟩
  intro H0 H vs Q s r kk
  obtain ⟨x, rfl, r1⟩ := r.one'
  obtain ⟨a, C1, dx, ws, rfl, h1, h2, h3, h4⟩ := id r1
  rw [hC] at h1; cases h1
  refine ⟨a, dx, _, rfl, s _ _ h2, ?_⟩
  rw [List.append_nil]
  refine ⟨H0, [.obj cn ns ds], .int i, s, ⟨_, _, rfl, r1, rfl⟩, hR, fun r H0' H' gg hd => ?_⟩
  cases (show r = .int i from hd)
  exact ⟨i, rfl, hi, kk _ H0' H' gg rfl⟩
end
end DL
namespace DL
open PySem PySem.Spec PyProof.Rows L2
/-- a suite's ends: its name is gone -/
def Ends.gone (D : L2.Ends) (i : Nat) : L2.Ends := { nx := fun σ H => D.nx (σ.set i none) H, rt := D.rt, bk := fun σ H => D.bk (σ.set i none) H, ct := fun σ H => D.ct (σ.set i none) H }
/-- the class named cn is not caught by except xn -/
structure Xs (K : PySem.W.Frag) (mg : Str → Option Value) (cn xn : Str) : Prop where
  ex : ∃ C D, PySem.W.nsIn K mainGlobals cn = some (some (.ref C)) ∧ mg xn = some (.ref D) ∧ PySem.W.exmOne K (.ref C) (.ref D) = some false
/-- a class -/
def Xn (mg : Str → Option Value) (xn : Str) : Prop := ∃ D, mg xn = some (.ref D)
theorem Xm.n {K : PySem.W.Frag} {mg : Str → Option Value} {cn xn : Str} (x : Xm K mg cn xn) : Xn mg xn := by obtain ⟨C, D, _, h, _⟩ := x.ex; exact ⟨D, h⟩
theorem Xs.n {K : PySem.W.Frag} {mg : Str → Option Value} {cn xn : Str} (x : Xs K mg cn xn) : Xn mg xn := by obtain ⟨C, D, _, h, _⟩ := x.ex; exact ⟨D, h⟩
section
variable {X : Cx} {ρ : En} {pos : Pos} {Φ : Out → Prop} {cn : Str} {ns : List Str} {ds : List D} {hds : List ExceptHandler}
/-- what a suite wants -/
def tsN (X : Cx) (sts : List Stmt) : Addr → Value → Option Addr → L2.TS := fun a cls d D σ H => ∀ oe pn, L2N.Zn cls d oe → (∃ vs, oe.data = .fields vs) → RSs (X.suite a ((a, oe) :: pn)) sts D σ H
end
end DL
namespace DL
open PySem PySem.Spec PyProof.Rows L2
section
variable {X : Cx} {ρ : En} {cn f : Str} {fs ns : List Str} {ds : List D} {pos : Pos}
/-- a new field of an instance with cells: a new own thing with cells of its own -/
theorem ws_setFEC (s : Nat) {a : Addr} {x : Str} {p pos' : Pos} {value : Expr} {cs : Cs} {Ψ : Addr → Cs → Prop} {Φ : Out → Prop} (kl : Kl X.K X.mg cn fs) (hρ : ρ[s]? = some (.ox ((a, .ins cn ns ds) :: cs) (.ad a))) (hv : EC X ρ value Ψ) (hΦ : ∀ q cs2, Ψ q cs2 → Φ (.nx (ρ.set s (.ox ((a, .ins cn (ns ++ [f]) (ds ++ [.ad q])) :: (cs ++ cs2)) (.ad a)))))
    (hnew : ns.contains f = false := by decide +kernel) (hf : f ∈ fs := by decide +kernel) (hlt : ns.length < 1000 := by decide)
    (hN : X.N[s]? = some x := by rfl) (hvis : Vis X.env.scope x := by first | exact Or.inl rfl | exact Or.inr (Or.inl rfl) | exact Or.inr (Or.inr rfl)) (hdb : (x == ("__debug__" : Str)) = false := by decide) (hcd : (x == ("__classdict__" : Str)) = false := by decide)
    (hs : swapsWith value (some (.Attribute (.Name x p) f pos')) pos.line X.env = pure false := by rfl) : WS X (.Assign [.Attribute (.Name x p) f pos'] value pos) ρ Φ := fun B0 B σ H0 H Dn j k => by
  refine ⟨_, ps_fld (pe_var hN hvis hdb hcd) pe_star hs, hv B0 B σ H0 H _ j fun q cs2 G0 G w g hc hnd => ?_⟩
  have j1 := j.mores g hρ hc hnd
  have hlt' : s < ρ.length := (List.getElem?_eq_some_iff.mp hρ).1
  obtain ⟨ov, e1, ⟨v1, rfl, rv⟩, hcs, nd⟩ := j1.get (i := s) (s := .ox ((a, .ins cn ns ds) :: (cs ++ cs2)) (.ad a)) (by rw [List.getElem?_set_self hlt']; rfl)
  cases (show v1 = .ref a from rv)
  obtain ⟨o, h1, h2, h3, vs, C, dx, rfl, hC, hlen, hvs⟩ := (hcs _ (List.mem_cons_self ..)).ex
  obtain ⟨C', hC', hm, hc', hk, hna⟩ := kl.ex
  rw [hC] at hC'; cases hC'
  have hl : (ns.zip vs).length < 1000 := by rw [List.length_zip]; omega
  refine ⟨_, e1, a, C, dx, _, rfl, h1, hc'.cl, hna f hf, hl, ?_⟩
  rw [putF_new hnew hlen]
  have j2 := j1.put (i := s) (cs := (a, .ins cn ns ds) :: (cs ++ cs2)) (d := .ad a) (c' := .ins cn (ns ++ [f]) (ds ++ [.ad q])) (o := .ins C dx ((ns ++ [f]).zip (vs ++ [.ref q]))) (by rw [List.getElem?_set_self hlt']; rfl) (List.mem_cons_self ..) ⟨vs ++ [.ref q], C, dx, rfl, hC, by simp [hlen], DRs.app hvs (DRs.one (d := .ad q) (v := V.ref q) rfl)⟩
  rw [putC_hd nd, List.set_set] at j2
  exact k _ (hΦ q cs2 w) _ _ _ j2
end
end DL
namespace DL
open PySem PySem.Spec L2
/-- in the order of a region -/
def Bef (b k : Bx) : Prop := b.d ≤ k.b ∨ (b.b = k.b ∧ b.d = k.d ∧ b.c < k.a)
abbrev ub (U : List Bx) (i : Nat) : Bx := U.getD i bx_0
structure Reg (U : List Bx) : Prop where
  v : VB U
  o : U.Pairwise Bef
theorem Reg.lt {U : List Bx} (h : Reg U) {i j : Nat} (hij : i < j) (hj : j < U.length) : Bef (ub U i) (ub U j) := by
  have := List.pairwise_iff_getElem.mp h.o i j (by omega) hj hij
  unfold ub
  rw [List.getD_eq_getElem?_getD, List.getD_eq_getElem?_getD, List.getElem?_eq_getElem (by omega), List.getElem?_eq_getElem hj]
  exact this
theorem Reg.ok {U : List Bx} (h : Reg U) {i : Nat} (hi : i < U.length) : (ub U i).a < (ub U i).c ∧ (ub U i).b < (ub U i).d := h.v _ (getD_memB hi)
/-- m lies wholly before what i can stand on -/
def Dd (U : List Bx) (m i : Nat) : Prop := (ub U m).d < (ub U i).b ∨ ((ub U m).d = (ub U i).b ∧ (ub U m).c ≤ (ub U i).a)
theorem Dd.mono {U : List Bx} (h : Reg U) {m i j : Nat} (d : Dd U m i) (hij : i ≤ j) (hj : j < U.length) : Dd U m j := by
  rcases Nat.lt_or_eq_of_le hij with q | q
  · have h1 := h.lt q hj
    have h2 := h.ok (i := i) (by omega)
    unfold Dd Bef at *
    omega
  · rw [← q]; exact d
end DL
namespace DL
open PySem PySem.Spec PyProof.Rows L2
abbrev HTs := Addr → Value → Option Addr → L2.TS
inductive HdM (X : Cx) : List ExceptHandler → List (Option Nat × Value × HTs) → Prop
  | nil : HdM X [] []
  | cons {i : Nat} {x n : Str} {c : Value} {ts : HTs} {b0 : Stmt} {suite : List Stmt} {np pos' : Pos} {hds : List ExceptHandler} {l : List (Option Nat × Value × HTs)}
      (hi : X.N[i]? = some n) (hln : X.env.kindOf n = some .local) (hc : Names X x c)
      (hsu : ∀ (a : Addr) (oe : Obj) (cls : Value) (d : Option Addr) (pn : List (Addr × Obj)), L2N.Zn cls d oe → (∃ vs, oe.data = .fields vs) → PSs (X.suite a ((a, oe) :: pn)) (b0 :: suite) (ts a cls d)) (r : HdM X hds l) :
      HdM X (.ExceptHandler (some (.Name x np)) (some n) (b0 :: suite) pos' :: hds) ((some i, c, ts) :: l)
  | bare {x : Str} {c : Value} {ts : HTs} {b0 : Stmt} {suite : List Stmt} {np pos' : Pos} {hds : List ExceptHandler} {l : List (Option Nat × Value × HTs)}
      (hc : Names X x c)
      (hsu : ∀ (a : Addr) (oe : Obj) (cls : Value) (d : Option Addr) (pn : List (Addr × Obj)), L2N.Zn cls d oe → (∃ vs, oe.data = .fields vs) → PSs (X.suite a ((a, oe) :: pn)) (b0 :: suite) (ts a cls d)) (r : HdM X hds l) :
      HdM X (.ExceptHandler (some (.Name x np)) none (b0 :: suite) pos' :: hds) ((none, c, ts) :: l)
def wAllM (K : PySem.W.Frag) (Wout : L2.WX) (D : L2.Ends) : List (Option Nat × Value × HTs) → L2.WX
  | [] => Wout
  | (some i, c, ts) :: r => fun cls d σ H => ∃ b, PySem.W.exmOne K cls c = some b ∧ (b = true → ∀ a, H a = none → ts a cls d (Ends.gone D i) (σ.set i (some (.ref a))) H) ∧ (b = false → wAllM K Wout D r cls d σ H)
  | (none, c, ts) :: r => fun cls d σ H => ∃ b, PySem.W.exmOne K cls c = some b ∧ (b = true → ∀ a, H a = none → ts a cls d D σ H) ∧ (b = false → wAllM K Wout D r cls d σ H)
section
variable {X : Cx} {body : List Stmt} {h0 : ExceptHandler} {hds : List ExceptHandler} {l : List (Option Nat × Value × HTs)} {pos : Pos} {tb : L2.WX → L2.TS} {Wout : L2.WX}
theorem ps_tryM (hs : X.stack = X.env :: X.outer) (hf : X.env.frame = some X.env.locals) (hN : X.N.Nodup) (tk : L2N.Takes X Wout)
    (hb : ∀ (W : L2.WX) (pn : List (Addr × Obj)) (xe : Value → Shared → Prop), L2N.Takes (X.tr pn xe) W → PassesOwn (model X.prog X.w) X.A X.env xe → PSs (X.tr pn xe) body (tb W)) (hh : HdM X (h0 :: hds) l) :
    PS X (.Try body (h0 :: hds) [] [] pos) (fun D σ H => tb (wAllM X.K Wout D l) D σ H) := by
  refine ⟨fun pins s σ H D I h => ?_⟩
  have ok := I.ok
  have frs0 : X.A.frames = some (X.env :: X.outer) := by rw [ok.frames, hs]
  refine wpAny_Try_except ?_
  have run := (hb (wAllM X.K Wout D l) (X.pn ++ pins) (fun e s1 => wpAny (model X.prog X.w) X.A (noteFrame e X.env) (fun _ s2 => wpAny (model X.prog X.w) X.A (setFlight e none) (fun _ s3 =>
    wpAny (model X.prog X.w) X.A (handleBy e X.env (h0 :: hds)) (SP X pins D) X.xe s3) X.xe s2) X.xe s1) (fun u s' caught => ?_) PassesOwn.looking).run [] s σ H D (I.toTry _) h
  · refine wpAny_mono run (fun f s1 q => ?_) (fun _ _ q => q)
    cases f with
    | next => obtain ⟨σ1, H1, J, q⟩ := q; exact wpAny_execs_nil ⟨σ1, H1, J.ofTry ok, q⟩
    | brk => obtain ⟨σ1, H1, J, q⟩ := q; exact ⟨σ1, H1, J.ofTry ok, q⟩
    | cont => obtain ⟨σ1, H1, J, q⟩ := q; exact ⟨σ1, H1, J.ofTry ok, q⟩
    | ret u => obtain ⟨v, σ1, H1, J, r, q⟩ := q; exact ⟨v, σ1, H1, J.ofTry ok, r, q⟩
  · obtain ⟨a, B, sI, pins1, σ1, H1, cls, d, rfl, J0, nb, up, sky, na, os, ag, want⟩ := caught
    have J : Inv X pins σ1 H1 sI := J0.ofTry ok
    have air : L2.Sky B (X.env :: X.outer) a (L2N.Zn cls d) X.env.locals s'.heap := by rw [← hs]; exact sky
    show wpAny (model X.prog X.w) X.A (noteFrame (.ref a) X.env) _ _ _
    refine L2N.Sky.land (B := B) L2N.Zn.steady frs0 hf air fun h3 fl up3 => ?_
    have J3 : Inv X pins σ1 H1 { s' with heap := h3 } := J.landed nb fl.1 (up.trans up3) os ag
    obtain ⟨oe, vs, he, hz, hd⟩ := fl.there
    have away : a ∉ frs (X.env :: X.outer) := fun m => by
      obtain ⟨_, o, e, no⟩ := fl.2.2.1.mem m
      rw [he] at e; cases e
      exact no _ hd
    have nL : a ≠ X.env.locals := fun z => away (List.mem_filterMap.mpr ⟨X.env, List.mem_cons_self, by rw [hf, z]⟩)
    have nF : a ∉ X.fs := fun m => by
      obtain ⟨e, m, q⟩ := List.mem_filterMap.mp m
      exact away (List.mem_filterMap.mpr ⟨e, List.mem_cons_of_mem _ m, q⟩)
    have S3 := J3.suite he hd na nL nF
    suffices go : ∀ (hds' : List ExceptHandler) (l' : List (Option Nat × Value × HTs)), HdM X hds' l' → wAllM X.K Wout D l' cls d σ1 H1 →
        wpAny (model X.prog X.w) X.A (handleBy (.ref a) X.env hds') (SP X pins D) X.xe { s' with heap := h3 } from go _ _ hh want
    clear want hh hb h
    have looks : PySem.W.Looks (model X.prog X.w) h3 (typeOf (.ref a)) cls := fun A Q E s k q => wpAny_typeOf_ref (k _ _ he) (by rw [hz.1]; exact q)
    intro hds' l' k
    induction k with
    | nil =>
      intro w
      refine wpAny_handleBy_nil ?_
      obtain ⟨g1, g2, g3, oe, vs, T, oT, ts, e1, e2, e3, e4, e5⟩ := id fl
      unfold PySem.passOn
      refine wpAny_bind (wpAny_field e1 e3 e4 ?_)
      rw [if_neg (show ¬ ((Value.ref T == Value.none) = true) from by simp)]
      have fin : wpAny (model X.prog X.w) X.A (setFlight (.ref a) X.env.frame) (fun _ s4 => wpAny (model X.prog X.w) X.A (throw (.ref a) : Sem Flow) (SP X pins D) X.xe s4) X.xe { s' with heap := h3 } := by
        rw [hf]
        exact HandSPX.setFlight_upZ fl fun h4 hh4 up4 => wpAny_throw (tk _ _ ⟨a, B, sI, pins, σ1, H1, cls, d, rfl, J, nb, (up.trans up3).trans up4, .inr (.inr (by rw [hs]; exact hh4)), na, os, ag, w⟩)
      first
        | exact wpAny_bind (wpAny_pure (wpAny_bind fin))
        | exact wpAny_bind fin
    | @cons i x n c ts b0 suite np pos' hds2 l2 hi hln hc hsu r ih =>
      intro w
      obtain ⟨b, hb1, yes, no⟩ := w
      refine wpAny_handleBy_cons (codeAny_handlers_test ?_) (by intro q; cases q)
      have one := PySem.W.exm_one (M := model X.prog X.w) (J3.kIn) looks hb1
      have ask : ∀ {Q : Value → Shared → Prop} {E : Value → Shared → Prop}, Q c { s' with heap := h3 } → wpAny (model X.prog X.w) (X.A.mark (some (.ref a))) (eval (.Name x np) X.env) Q E { s' with heap := h3 } := fun {Q E} q => by
        obtain ⟨hg, hdbg, hm | ⟨hm, hv, hnn⟩⟩ := hc
        · exact ld_glob (X := X.suite a ((a, oe) :: (X.pn ++ pins))) S3 hg hm q hdbg
        · exact ld_blt (X := X.suite a ((a, oe) :: (X.pn ++ pins))) S3 hg hm hv q hnn hdbg
      refine ask (one.here ?_)
      cases b with
      | false => exact ih (no rfl)
      | true =>
        refine codeAny_handlers_suite_as (HandSPX.lands_againZ fl fun h4 fl4 up4 => ?_)
        have J4 : Inv X pins σ1 H1 { s' with heap := h4 } := J.landed nb fl4.1 ((up.trans up3).trans up4) os ag
        obtain ⟨oe4, vs4, he4, hz4, hd4⟩ := fl4.there
        refine store_ok (X := X.suite a ((a, oe4) :: (X.pn ++ pins))) (v := .ref a) (J4.suite he4 hd4 na nL nF) hN hi (.inl hln) rfl (fun s5 S5 => ?_) (.inr hln)
        refine wpAny_mono ((hsu a oe4 cls d (X.pn ++ pins) hz4 ⟨_, hd4⟩).run [] s5 _ H1 _ S5 (yes rfl a na)) (fun f s6 q => ?_) (fun _ _ z => False.elim z)
        have fin : ∀ {σ6 : L2.St} {H6 : Hp} {Q : Shared → Prop}, Inv (X.suite a ((a, oe4) :: (X.pn ++ pins))) [] σ6 H6 s6 → (∀ s7, Inv X pins (σ6.set i none) H6 s7 → Q s7) →
            wpAny (model X.prog X.w) X.A (do bindName X.env n .none; unbindBehindTheSuite X.env n pos') (fun _ s7 => Q s7) X.xe s6 := fun S6 hq => gone_ok (S6.unsuite ok) hN hi hln hq
        cases f with
        | next => obtain ⟨σ6, H6, S6, q6⟩ := q; exact fin S6 fun s7 J7 => ⟨_, _, J7, q6⟩
        | brk => obtain ⟨σ6, H6, S6, q6⟩ := q; exact fin S6 fun s7 J7 => ⟨_, _, J7, q6⟩
        | cont => obtain ⟨σ6, H6, S6, q6⟩ := q; exact fin S6 fun s7 J7 => ⟨_, _, J7, q6⟩
        | ret u => obtain ⟨v6, σ6, H6, S6, r6, q6⟩ := q; exact fin S6 fun s7 J7 => ⟨_, _, _, J7, r6, q6⟩
    | @bare x c ts b0 suite np pos' hds2 l2 hc hsu r ih =>
      intro w
      obtain ⟨b, hb1, yes, no⟩ := w
      refine wpAny_handleBy_cons (codeAny_handlers_test ?_) (by intro q; cases q)
      have one := PySem.W.exm_one (M := model X.prog X.w) (J3.kIn) looks hb1
      have ask : ∀ {Q : Value → Shared → Prop} {E : Value → Shared → Prop}, Q c { s' with heap := h3 } → wpAny (model X.prog X.w) (X.A.mark (some (.ref a))) (eval (.Name x np) X.env) Q E { s' with heap := h3 } := fun {Q E} q => by
        obtain ⟨hg, hdbg, hm | ⟨hm, hv, hnn⟩⟩ := hc
        · exact ld_glob (X := X.suite a ((a, oe) :: (X.pn ++ pins))) S3 hg hm q hdbg
        · exact ld_blt (X := X.suite a ((a, oe) :: (X.pn ++ pins))) S3 hg hm hv q hnn hdbg
      refine ask (one.here ?_)
      cases b with
      | false => exact ih (no rfl)
      | true =>
        refine codeAny_handlers_suite (HandSPX.lands_againZ fl fun h4 fl4 up4 => ?_)
        have J4 : Inv X pins σ1 H1 { s' with heap := h4 } := J.landed nb fl4.1 ((up.trans up3).trans up4) os ag
        obtain ⟨oe4, vs4, he4, hz4, hd4⟩ := fl4.there
        have S4 := J4.suite he4 hd4 na nL nF
        refine wpAny_mono ((hsu a oe4 cls d (X.pn ++ pins) hz4 ⟨_, hd4⟩).run [] _ _ H1 _ S4 (yes rfl a na)) (fun f s6 q => ?_) (fun _ _ z => False.elim z)
        cases f with
        | next => obtain ⟨σ6, H6, S6, q6⟩ := q; exact ⟨_, _, S6.unsuite ok, q6⟩
        | brk => obtain ⟨σ6, H6, S6, q6⟩ := q; exact ⟨_, _, S6.unsuite ok, q6⟩
        | cont => obtain ⟨σ6, H6, S6, q6⟩ := q; exact ⟨_, _, S6.unsuite ok, q6⟩
        | ret u => obtain ⟨v6, σ6, H6, S6, r6, q6⟩ := q; exact ⟨_, _, _, S6.unsuite ok, r6, q6⟩
end
section
variable {X : Cx} {ρ : En} {pos : Pos} {Φ : Out → Prop} {cn : Str} {ns : List Str} {ds : List D} {hds : List ExceptHandler}
def HdQ (X : Cx) (hds : List ExceptHandler) : Prop := ∃ l, HdM X hds l
theorem hdq_nil : HdQ X [] := ⟨[], .nil⟩
theorem hdm_one {x n : Str} {i : Nat} {D : Addr} {b0 : Stmt} {suite : List Stmt} {np pos' : Pos} {l : List (Option Nat × Value × HTs)} (hD : X.mg x = some (.ref D)) (hg : Gl X x) (hi : X.N[i]? = some n) (hdb : (x == ("__debug__" : Str)) = false) (hln : X.env.kindOf n = some .local) (r : HdM X hds l) :
    HdM X (.ExceptHandler (some (.Name x np)) (some n) (b0 :: suite) pos' :: hds) ((some i, .ref D, tsN X (b0 :: suite)) :: l) :=
  .cons hi hln ⟨hg, hdb, .inl hD⟩ (fun a oe cls d pn hz hf => ⟨fun pins s σ H D I h => pss_star.run pins s σ H D I (h oe pn hz hf)⟩) r
theorem hdm_bare {x : Str} {D : Addr} {b0 : Stmt} {suite : List Stmt} {np pos' : Pos} {l : List (Option Nat × Value × HTs)} (hD : X.mg x = some (.ref D)) (hg : Gl X x) (hdb : (x == ("__debug__" : Str)) = false) (r : HdM X hds l) :
    HdM X (.ExceptHandler (some (.Name x np)) none (b0 :: suite) pos' :: hds) ((none, .ref D, tsN X (b0 :: suite)) :: l) :=
  .bare ⟨hg, hdb, .inl hD⟩ (fun a oe cls d pn hz hf => ⟨fun pins s σ H D I h => pss_star.run pins s σ H D I (h oe pn hz hf)⟩) r
theorem hdq_cons {x n : Str} (i : Nat) {b0 : Stmt} {suite : List Stmt} {np pos' : Pos} (xn : Xn X.mg x) (hg : Gl X x) (r : HdQ X hds) (hi : X.N[i]? = some n := by rfl) (hdb : (x == ("__debug__" : Str)) = false := by decide +kernel) (hln : X.env.kindOf n = some .local := by rfl) :
    HdQ X (.ExceptHandler (some (.Name x np)) (some n) (b0 :: suite) pos' :: hds) := by
  obtain ⟨D, hD⟩ := xn
  obtain ⟨l, r⟩ := r
  exact ⟨_, hdm_one hD hg hi hdb hln r⟩
theorem hdq_bare {x : Str} {b0 : Stmt} {suite : List Stmt} {np pos' : Pos} (xn : Xn X.mg x) (hg : Gl X x) (r : HdQ X hds) (hdb : (x == ("__debug__" : Str)) = false := by decide +kernel) :
    HdQ X (.ExceptHandler (some (.Name x np)) none (b0 :: suite) pos' :: hds) := by
  obtain ⟨D, hD⟩ := xn
  obtain ⟨l, r⟩ := r
  exact ⟨_, hdm_bare hD hg hdb r⟩
/-- an error without fields meets the handlers -/
def QatG (X : Cx) (ρ : En) (Φ : Out → Prop) (cn : Str) (hds : List ExceptHandler) : Prop := ∃ l, HdM X hds l ∧ ∀ B0 B σ H0 H Dn C, PySem.W.nsIn X.K mainGlobals cn = some (some (.ref C)) → J X.K B0 B σ H0 H ρ → (∀ o, Φ o → Post X.K B0 B Dn o) → wAllM X.K (fun _ _ _ _ => False) Dn l (.ref C) none σ H
theorem qatG_skip0 {xn : Str} {b0 : Stmt} {suite : List Stmt} {np pos' : Pos} (xs : Xs X.K X.mg cn xn) (hg : Gl X xn) (r : QatG X ρ Φ cn hds) (hdb : (xn == ("__debug__" : Str)) = false := by decide +kernel) :
    QatG X ρ Φ cn (.ExceptHandler (some (.Name xn np)) none (b0 :: suite) pos' :: hds) := by
  obtain ⟨C, D, hC, hD, hx⟩ := xs.ex
  obtain ⟨l, h1, h2⟩ := r
  refine ⟨_, hdm_bare hD hg hdb h1, fun B0 B σ H0 H Dn C' hC' j k => ?_⟩
  rw [hC] at hC'; cases hC'
  exact ⟨false, hx, (fun z => nomatch z), fun _ => h2 B0 B σ H0 H Dn _ hC j k⟩
theorem qatG_hit0 {xn : Str} {b0 : Stmt} {suite : List Stmt} {np pos' : Pos} (xm : Xm X.K X.mg cn xn) (hg : Gl X xn) (r : HdQ X hds)
    (hs : ∀ a C oe pn, PySem.W.nsIn X.K mainGlobals cn = some (some (.ref C)) → L2N.Zn (.ref C) none oe → (∃ vs, oe.data = .fields vs) → WSs (X.suite a ((a, oe) :: pn)) (b0 :: suite) ρ Φ)
    (hdb : (xn == ("__debug__" : Str)) = false := by decide +kernel) :
    QatG X ρ Φ cn (.ExceptHandler (some (.Name xn np)) none (b0 :: suite) pos' :: hds) := by
  obtain ⟨C, D, hC, hD, hx⟩ := xm.ex
  obtain ⟨l, r⟩ := r
  refine ⟨_, hdm_bare hD hg hdb r, fun B0 B σ H0 H Dn C' hC' j k => ?_⟩
  rw [hC] at hC'; cases hC'
  exact ⟨true, hx, fun _ a ha oe pn hz hf => hs a C oe pn hC hz hf B0 B _ H0 H _ j k, (fun z => nomatch z)⟩
theorem ws_tryQG {body : List Stmt} {h0 : ExceptHandler} (hN : X.N.Nodup) (hb : ∀ pn xe, PassesOwn (model X.prog X.w) X.A X.env xe → XG (X.tr pn xe) body ρ (errN cn) ρ) (hc : QatG X ρ Φ cn (h0 :: hds)) (hst : X.stack = X.env :: X.outer := by rfl) (hf : X.env.frame = some X.env.locals := by rfl) :
    WS X (.Try body (h0 :: hds) [] [] pos) ρ Φ := fun B0 B σ H0 H Dn j k => by
  obtain ⟨l, h1, h2⟩ := hc
  refine ⟨_, ps_tryM (Wout := fun _ _ _ _ => False) (tb := fun W D σ H => ∀ pn xe, L2N.Takes (X.tr pn xe) W → PassesOwn (model X.prog X.w) X.A X.env xe → RSs (X.tr pn xe) body D σ H) hst hf hN takes0N
    (fun W pn xe tk po => ⟨fun pins s σ H D I h => pss_star.run pins s σ H D I (h pn xe tk po)⟩) h1, fun pn xe tk po => ?_⟩
  refine hb pn xe po B0 B σ H0 H Dn _ tk j fun v d σ' L0 L t j' => ?_
  obtain ⟨C, hC, rfl, rfl⟩ := t
  exact h2 B0 B σ' L0 L Dn C hC j' k
end
section
variable {X : Cx} {ρ : En} {e : Expr} {pos : Pos} {rest : List Stmt} {Φ : Out → Prop}
theorem ws_perm (s : Nat) {cs cs' : Cs} {d0 : D} (hρ : ρ[s]? = some (.ox cs d0)) (p : cs.Perm cs') (h : WSs X rest (ρ.set s (.ox cs' d0)) Φ) : WSs X rest ρ Φ :=
  ws_pick s hρ (fun x hx => p.mem_iff.mpr hx) (fun nd => (p.map _).nodup_iff.mp nd) h
end
structure FnL (P : Program) (w : World) (K : PySem.W.Frag) (mg : Str → Option Value) (base : Heap) (x : Str) (k : Nat) (R : RLnt) : Prop where
  ex : ∃ f fd ps, FnOk P w K mg base CX0 k f fd ps (spL K R) ∧ mg x = some (.ref f) ∧ PySem.W.keepIn K (.ref f) = true ∧ Binds K fd ps []
section
variable {X : Cx} {ρ : En} {e : Expr} {pos : Pos} {es : List Expr} {ds : List D} {d0 : D}
/-- f(o, ..), o what slot i owns -/
theorem ep_callL {x : Str} {k : Nat} {R : RLnt} {p : Pos} (i : Nat) {a : Addr} {cs cs2 : Cs} {Ψ : Cs → D → Prop} (G : FnL X.prog X.w X.K X.mg X.base x k R) (hr : Room k X.A) (hg : Gl X x) (hi : ρ[i]? = some (.ox (cs ++ cs2) d0)) (ha : AD X ρ (e :: es) (.ad a :: ds)) (hR : R a cs ds Ψ)
    (hdb : (x == ("__debug__" : Str)) = false := by decide +kernel) (he : starEach (e :: es) X.env = (false, eval e X.env) :: starEach es X.env := by rfl) (hpl : (backTo pos (starEach es X.env)).any (·.1) = false := by rfl) :
    EP X ρ (.Call (.Name x p) (e :: es) [] pos) (fun d ρ' => ∃ cs', Ψ cs' d ∧ ρ' = ρ.set i (.ox (cs' ++ cs2) d0)) := fun B0 B σ H0 H Q j kk => by
  obtain ⟨f, fd, ps, F, hm, hk, hb⟩ := G.ex
  refine RE.of (pe_call (E := E0) F hr hg hm hk hb .nil pass0 pa_star hdb he hpl) (ha B0 B σ H0 H _ j fun vs G0 G g r => ?_)
  obtain ⟨v, ws, rfl, r1, r2⟩ := r
  cases (show v = .ref a from r1)
  rw [List.append_nil]
  have j1 := j.grow g
  obtain ⟨lc, ln⟩ := j1.lent hi
  exact ⟨G0, a, cs, ds, ws, Ψ, rfl, g.sh, lc, ln, r2, hR, fun cs' d v M0 M w g3 c3 n3 r3 => kk d _ v M0 M ⟨cs', w, rfl⟩ (g.s0.trans g3.s0) (j1.back hi g3 c3 n3) r3⟩
end
section
variable {X : Cx} {ρ : En} {e : Expr} {pos : Pos} {Φ : Out → Prop}
theorem ws_newCell (s i : Nat) {x : Str} {pos' : Pos} {cs : Cs} {d0 : D} {c : OC} (hN : X.N.Nodup) (hs0 : ρ[s]? = some (.ox cs d0)) (he : EO X ρ e c) (hΦ : ∀ q, Φ (.nx ((ρ.set s (.ox (cs ++ [(q, c)]) d0)).set i (.sh (.ad q))))) (hi : X.N[i]? = some x := by rfl) (hx : Loc X.env.scope x := by first | exact Or.inl rfl | exact Or.inr rfl)
    (hs : swapsWith e (some (.Name x pos')) pos.line X.env = pure false := by rfl) (hf : X.fn x = true ∨ X.env.scope.names.lookup x = some .local := by first | exact .inl rfl | exact .inr rfl) : WS X (.Assign [.Name x pos'] e pos) ρ Φ := fun B0 B σ H0 H Dn j k =>
  ⟨_, ps_set hN hi hx pe_star hs hf, he B0 B σ H0 H _ j fun q o G0 G g h1 h2 h3 r => k _ (hΦ q) _ _ _ ((j.more g hs0 h1 h2 h3 r).setSh (d := .ad q) (v := .ref q) rfl)⟩
end
end DL
namespace DL
open PySem PySem.Spec PyProof.Rows L2
section
variable {X : Cx} {ρ : En} {kx vx tg iter : Expr} {scope : Scope} {ds : List D} {cpos : Pos} {α : Type}
def TurnC (X : Cx) (ρ : En) (scope : Scope) (vs : List Nat) (tg kx vx : Expr) (d : D) (k : Key) (Ψ : Addr → Cs → Prop) : Prop :=
  ∃ ρ' : En, ρ'.length = ρ.length ∧ ∀ (s : Shared) (H : Hp) (C : Addr) (cl : List (Str × Addr)) (fp : List Addr), DG (X.blk s H scope (compEnvC scope cl C X.env) fp) vs tg d (wipeE ρ vs) ρ' ∧
    ED (X.blk s H scope (compEnvC scope cl C X.env) fp) ρ' kx (kD k) ∧ EC (X.blk s H scope (compEnvC scope cl C X.env) fp) ρ' vx Ψ
theorem drs_ad3 {K : PySem.W.Frag} {H : Hp} : ∀ g : List (α × Addr × Cs), DRs K H (g.map fun t => D.ad t.2.1) (g.map fun t => V.ref t.2.1)
  | [] => rfl
  | t :: g => ⟨.ref t.2.1, _, rfl, rfl, drs_ad3 g⟩
theorem ec_dcC (own : List (Str × Nat)) (xs : List α) (enc : α → D) (kf : α → Key) (Ψ : α → Addr → Cs → Prop) (hc : X.calm = true) (hN : X.N.Nodup) (ok : BlkOk X.N X.env.scope scope own) (hi : ID X ρ tg iter ds) (he : ds = xs.map enc) (nd : (xs.map kf).Nodup)
    (turn : ∀ x ∈ xs, TurnC X ρ scope (own.map (·.2)) tg kx vx (enc x) (kf x) (Ψ x)) (hl : xs.length ≤ sizeLine)
    (hs : ∀ x, foldedSetIterable iter X.env x = pure x := by intro _; rfl) : EC X ρ (.DictComp kx vx [⟨tg, iter, [], 0⟩] scope cpos) (fun a cs => ∃ g : List (α × Addr × Cs), g.map (·.1) = xs ∧ (∀ t ∈ g, Ψ t.1 t.2.1 t.2.2) ∧ cs = (a, OC.dk (xs.map kf) (g.map fun t => D.ad t.2.1)) :: g.flatMap (·.2.2)) := fun B0 B σ H0 H Q j k => by
  subst he
  refine RE.of (pe_dc hc hN pi_star ok (g := GB X scope tg) (tt := TB X scope []) (tk := EB X scope kx) (tv := EB X scope vx)
    (fun s H C cl fp => ⟨fun pins s1 σ1 H1 v u Q1 I r h => (pg_star (tg := tg)).run pins s1 σ1 H1 v u Q1 I r (h s H C cl fp)⟩)
    (fun s H C cl fp => ⟨fun pins s1 σ1 H1 Q1 I h => by obtain ⟨t, h1, h2⟩ := h s H C cl fp; exact h1.run pins s1 σ1 H1 Q1 I h2⟩)
    (fun s H C cl fp => ⟨fun pins s1 σ1 H1 Q1 I h => (pe_star (e := kx)).run pins s1 σ1 H1 Q1 I (h s H C cl fp)⟩)
    (fun s H C cl fp => ⟨fun pins s1 σ1 H1 Q1 I h => (pe_star (e := vx)).run pins s1 σ1 H1 Q1 I (h s H C cl fp)⟩) hs) ?_
  refine hi B0 B σ H0 H _ j fun Jt G0 G g0 ⟨GG, Y, w, hG, hY⟩ => fun Dn hD => ?_
  have j0 := j.grow g0
  rw [List.length_map] at w
  refine dc_it (g := GB X scope tg) (tt := TB X scope []) (tk := EB X scope kx) (tv := EB X scope vx) (vs := own.map (·.2)) (Qd := fun H => Q (.ref Dn) H) w
    (fun i H1 => ∃ (L0 : Hp) (g : List (α × Addr × Cs)), JH G0 G L0 H1 ∧ H1 Dn = some (.dK (((xs.take i).map kf).zip (g.map fun t => V.ref t.2.1))) ∧ L0 Dn = none ∧ g.map (·.1) = xs.take i ∧ (∀ t ∈ g, Ψ t.1 t.2.1 t.2.2) ∧ (∀ p ∈ g.flatMap (·.2.2), CellR X.K G L0 H1 p.1 p.2) ∧ (Dn :: pl (g.flatMap (·.2.2))).Nodup)
    ⟨G0, [], JH.own g0.sh hD, upd_same, g0.sh.free hD, rfl, (fun t h => by cases h), (fun t h => by cases h), by simp⟩ (fun i H1 _ ⟨L0, _, g1, _⟩ => hG L0 H1 g1.s0 g1.sh) ?_ ?_
  · rintro i x H1 H1' hi ⟨L0, g, g1, hDn, hD0, hg, hΨ, hcl, ndg⟩ hy
    obtain ⟨z, hz⟩ : ∃ z, xs[i]? = some z := ⟨xs[i], by simp [hi]⟩
    obtain ⟨L1, g2, rx⟩ := hY i L0 H1 x H1' (enc z) (by rw [List.getElem?_map, hz]; rfl) g1.s0 g1.sh hy
    obtain ⟨ρ', hlen', turn⟩ := turn z (List.mem_of_getElem? hz)
    have j1 := ((j0.grow g1).grow g2).wipe (own.map (·.2))
    intro s Hs C cl fp
    refine (turn s Hs C cl fp).1 B0 B _ L1 H1' x _ j1 rx fun σ2 j2 off => ⟨wipe_back (by rw [j2.len, hlen', ← wipeE_length ρ (own.map (·.2)), ← j1.len, wipe_length]) off, ?_⟩
    have gg := g1.trans g2
    have hDn' := g2.sB _ _ hDn
    have hD0' : L1 Dn = none := g2.fr _ _ hDn trivial hD0
    have eT : xs.take (i + 1) = xs.take i ++ [z] := by rw [List.take_add_one, hz]; rfl
    intro s Hs C cl fp
    refine (tds_nil (X := X.blk s Hs scope (compEnvC scope cl C X.env) fp) (ρ := ρ')) B0 B σ2 L1 H1' _ j2 fun M0 M g3 => iteT fun s Hs C cl fp => ?_
    refine (turn s Hs C cl fp).2.1 B0 B σ2 M0 M _ (j2.grow g3) fun y N0 N g4 ry => fun s Hs C cl fp => ?_
    refine (turn s Hs C cl fp).2.2 B0 B σ2 N0 N _ ((j2.grow g3).grow g4) fun q cs P0 P wq g5 hcs ndc => ?_
    have g345 := (g3.trans g4).trans g5
    have gN := (gg.trans g3).trans g4
    have hDN : N Dn = some (.dK (((xs.take i).map kf).zip (g.map fun t => V.ref t.2.1))) := (g3.trans g4).sB _ _ hDn'
    have h5 := g345.sB _ _ hDn'
    have h50 : P0 Dn = none := g345.fr _ _ hDn' trivial hD0'
    have gl := gg.trans g345
    have hla : ((xs.take i).map kf).length = (g.map fun t => V.ref t.2.1).length := by
      have := congrArg List.length hg
      rw [List.length_map] at this
      rw [List.length_map, List.length_map, this]
    have hnin : kf z ∉ (xs.take i).map kf := by
      have h1 : ((xs.take (i + 1)).map kf).Nodup := by rw [List.map_take]; exact nd.sublist (List.take_sublist ..)
      rw [eT, List.map_append, List.nodup_append] at h1
      exact fun q => h1.2.2 _ q (kf z) (by simp) rfl
    have new : ∀ p ∈ cs, N p.1 = none := fun p hp => by obtain ⟨_, _, _, q3, _⟩ := (hcs p hp).ex; exact q3
    have nDn : ∀ p ∈ cs, p.1 ≠ Dn := fun p hp e => by have := new p hp; rw [e, hDN] at this; cases this
    refine ⟨_, kf z, kD_val ry, h5, ?_, P0, g ++ [(z, q, cs)], ⟨gl.s0, fun b u e => upd_keep (gl.sh b u e) (ne_of_none e h50), fun b u e => upd_keep (gl.sB b u e) (ne_of_none e hD), gl.fr⟩, ?_, h50, ?_, ?_, ?_, ?_⟩
    · rw [List.length_zip, hla, Nat.min_self, ← hla, List.length_map, List.length_take]
      have : i < xs.length := hi
      omega
    · rw [upd_same, putK_zip hla hnin, eT, List.map_append, List.map_append]
      rfl
    · rw [List.map_append, hg, eT]; rfl
    · intro t ht
      rcases List.mem_append.mp ht with ht | ht
      · exact hΨ t ht
      · rw [List.mem_singleton.mp ht]; exact wq
    · intro p hp
      rw [List.flatMap_append] at hp
      rcases List.mem_append.mp hp with hp | hp
      · exact ((hcl p hp).grow (g2.trans g345)).keep fun e => (List.nodup_cons.mp ndg).1 (e ▸ List.mem_map.mpr ⟨p, hp, rfl⟩)
      · have hp' : p ∈ cs := by simpa using hp
        obtain ⟨o, q1, q2, q3, q4⟩ := (hcs p hp').ex
        exact (CellR.mk ⟨o, q1, q2, gN.sB.free q3, q4⟩).keep (nDn p hp')
    · rw [List.flatMap_append]
      have e9 : pl (g.flatMap (·.2.2) ++ [(z, q, cs)].flatMap (·.2.2)) = pl (g.flatMap (·.2.2)) ++ pl cs := by simp
      rw [e9, ← List.cons_append, List.nodup_append]
      refine ⟨ndg, ndc, fun x hx y hy e => ?_⟩
      subst e
      obtain ⟨p, hp, rfl⟩ := List.mem_map.mp hy
      rcases List.mem_cons.mp hx with e | e
      · exact nDn p hp e
      · obtain ⟨p2, hp2, e2⟩ := List.mem_map.mp e
        obtain ⟨o, q1, _⟩ := ((hcl p2 hp2).grow (g2.trans (g3.trans g4))).ex
        have h9 := new p hp
        rw [← e2, q1] at h9; cases h9
  · rintro H1 ⟨L0, g, g1, hDn, hD0, hg, hΨ, hcl, ndg⟩
    rw [List.take_length] at hDn hg
    refine k Dn ((Dn, OC.dk (xs.map kf) (g.map fun t : α × Addr × Cs => D.ad t.2.1)) :: g.flatMap fun t : α × Addr × Cs => t.2.2) L0 H1 ⟨g, hg, hΨ, rfl⟩ (g0.trans g1) (fun p hp => ?_) (by unfold pl; rw [List.map_cons]; exact ndg)
    rcases List.mem_cons.mp hp with rfl | hp
    · refine ⟨_, hDn, hD0, g0.sB.free hD, g.map fun t => V.ref t.2.1, rfl, ?_, ?_⟩
      · have := congrArg List.length hg
        rw [List.length_map] at this
        rw [List.length_map, List.length_map, this]
      · exact drs_ad3 g
    · obtain ⟨o, q1, q2, q3, q4⟩ := (hcl p hp).ex
      exact ⟨o, q1, q2, g0.sB.free q3, q4⟩
end
end DL
namespace DL
open PySem PySem.Spec PyProof.Rows L2
section
variable {K : PySem.W.Frag} {B0 B H0 H : Hp} {σ : L2.St} {ρ : En}
theorem J.show2 (j : J K B0 B σ H0 H ρ) {i m : Nat} {cs : Cs} {d0 d2 : D} (d' d2' : D) (hi : ρ[i]? = some (.ox cs d0)) (hm : ρ[m]? = some (.sh d2)) (him : i ≠ m)
    (hd : ∀ v, (∀ H, (∀ p ∈ cs, DR K H p.2.d (.ref p.1)) → DR K H d0 v → DR K H d' v)) (hd2 : ∀ v, (∀ H, (∀ p ∈ cs, DR K H p.2.d (.ref p.1)) → DR K H d2 v → DR K H d2' v)) :
    ∃ H1, J K B0 B σ H1 H ((ρ.set i (.sh d')).set m (.sh d2')) ∧ Same H0 H1 ∧ (∀ b, b ∉ pl cs → H1 b = H0 b) ∧ ∀ b ∈ pl cs, H0 b = none := by
  obtain ⟨H1, j1, s1, r1, n1, z1⟩ := shareAllX j hi
  have hl : i < σ.length := by rw [j.len]; exact (List.getElem?_eq_some_iff.mp hi).1
  obtain ⟨ov, e1, v, e2, r2⟩ := j1.get (i := i) (s := .sh d0) (by rw [List.getElem?_set_self (by rw [← j.len]; exact hl)])
  have j2 := j1.setSl (i := i) (s := .sh d') e1 ⟨v, e2, hd v _ r1 r2⟩ fun a w => w.elim
  rw [List.set_set] at j2
  obtain ⟨ow, f1, u, f2, f3⟩ := j2.get (i := m) (s := .sh d2) (by rw [List.getElem?_set_ne him]; exact hm)
  exact ⟨H1, j2.setSl (i := m) (s := .sh d2') f1 ⟨u, f2, hd2 u _ r1 f3⟩ (fun a w => w.elim), s1, n1, z1⟩
end
section
variable {X : Cx} {ρ : En} {e : Expr} {d d0 d2 : D} {cs : Cs}
theorem td_show2 (i m : Nat) (d' d2' : D) {k : Bool} (hi : ρ[i]? = some (.ox cs d0)) (hm : ρ[m]? = some (.sh d2)) (him : i ≠ m) (hd : ∀ v, (∀ H, (∀ p ∈ cs, DR X.K H p.2.d (.ref p.1)) → DR X.K H d0 v → DR X.K H d' v)) (hd2 : ∀ v, (∀ H, (∀ p ∈ cs, DR X.K H p.2.d (.ref p.1)) → DR X.K H d2 v → DR X.K H d2' v))
    (h : TD X ((ρ.set i (.sh d')).set m (.sh d2')) e k) : TD X ρ e k := fun B0 B σ H0 H Q j kk => by
  obtain ⟨H1, j2, s1, n1, z1⟩ := j.show2 d' d2' hi hm him hd hd2
  exact h B0 B σ H1 H Q j2 fun G0 G g => kk (ers G0 (pl cs)) G (g.unshow s1 n1 z1)
end
section
variable {X : Cx} {ρ : En} {a b e : Expr} {pos : Pos} {rest : List Stmt} {Φ : Out → Prop}
theorem ws_to (s : Nat) {cs cs' : Cs} {d0 : D} (hρ : ρ[s]? = some (.ox cs d0)) (q : cs = cs') (h : WSs X rest (ρ.set s (.ox cs' d0)) Φ) : WSs X rest ρ Φ := ws_perm s hρ (q ▸ List.Perm.refl _) h
theorem ws_dropHd (s : Nat) {x : Addr × OC} {cs : Cs} {d0 : D} (hρ : ρ[s]? = some (.ox (x :: cs) d0)) (h : WSs X rest (ρ.set s (.ox cs d0)) Φ) : WSs X rest ρ Φ := ws_pick s hρ (fun y hy => List.mem_cons_of_mem _ hy) (fun nd => (List.nodup_cons.mp nd).2) h
theorem ep_back {Ψ Ψ' : D → En → Prop} (i : Nat) (h : EP X ρ e Ψ) (q : ∀ d ρ', Ψ d ρ' → ∃ cs cs' d0, ρ'[i]? = some (.ox cs d0) ∧ cs.Perm cs' ∧ Ψ' d (ρ'.set i (.ox cs' d0))) : EP X ρ e Ψ' := fun B0 B σ H0 H Q j k =>
  h B0 B σ H0 H Q j fun d ρ' v H0' H' w s1 j1 r => by
    obtain ⟨cs, cs', d0, h1, h2, h3⟩ := q d ρ' w
    exact k d _ v H0' H' h3 s1 (j1.perm h1 h2) r
theorem tp_cmpG {op : CmpOp} {Ψ : D → En → Prop} {Ψ2 : Bool → En → Prop} (ha : EP X ρ a Ψ) (hb : ∀ d ρ', Ψ d ρ' → ∃ d2 k, ED X ρ' b d2 ∧ C2 X op d d2 (.bl k) ∧ Ψ2 k ρ') (hm : behindInMarks op b = false := by first | exact nomark _ | rfl) : TP X ρ (.Compare a [op] [b] pos) Ψ2 := fun B0 B σ H0 H Q j kk => by
  obtain ⟨r, h1, _⟩ : ∃ r, OpR X (compareOp op) r ∧ True := by
    refine ⟨fun x y H Q => ∃ r, OpR X (compareOp op) r ∧ r x y H Q, fun pins s σ H x y v u Q I rx ry h => ?_, trivial⟩
    obtain ⟨r, h1, h2⟩ := h
    exact h1 pins s σ H x y v u Q I rx ry h2
  have hop : OpR X (compareOp op) (fun x y H Q => ∃ r, OpR X (compareOp op) r ∧ r x y H Q) := fun pins s σ H x y v u Q I rx ry h => by
    obtain ⟨r, h1, h2⟩ := h
    exact h1 pins s σ H x y v u Q I rx ry h2
  refine RT.of (pt_cmpR hop pe_star pe_star hm) (ha B0 B σ H0 H _ j fun d ρ' x G0 G w s1 j1 r1 => ?_)
  obtain ⟨d2, k, hb', ho, w2⟩ := hb d ρ' w
  obtain ⟨r, h1, h2⟩ := ho
  refine hb' B0 B σ G0 G _ j1 fun y L0 L g2 r2 => ⟨r, h1, ?_⟩
  exact h2 L0 L x y _ g2.sh (DR.mono g2.s0 _ _ r1) r2 fun v M0 M g3 r3 => ⟨k, r3, kk k _ M0 M w2 ((j1.grow g2).grow g3)⟩
theorem tp_cmpF {op : CmpOp} {k : Bool} {Ψ : D → En → Prop} (ha : EP X ρ a Ψ) (hb : ∀ d ρ', Ψ d ρ' → ∃ d2, ED X ρ' b d2 ∧ C2 X op d d2 (.bl k)) (hm : behindInMarks op b = false := by first | exact nomark _ | rfl) : TP X ρ (.Compare a [op] [b] pos) (fun q ρ' => q = k ∧ ∃ d, Ψ d ρ') :=
  tp_cmpG ha (fun d ρ' w => by obtain ⟨d2, h1, h2⟩ := hb d ρ' w; exact ⟨d2, k, h1, h2, rfl, d, w⟩) hm
end
section
variable {X : Cx} {ρ : En} {e : Expr} {pos : Pos} {es : List Expr} {ds : List D} {d0 : D}
theorem ep_callLW {x : Str} {k : Nat} {R : RLnt} {p : Pos} (i : Nat) {a : Addr} {cs : Cs} {Ψ : Cs → D → Prop} (G : FnL X.prog X.w X.K X.mg X.base x k R) (hr : Room k X.A) (hg : Gl X x) (hi : ρ[i]? = some (.ox cs d0)) (ha : AD X ρ (e :: es) (.ad a :: ds)) (hR : R a cs ds Ψ)
    (hdb : (x == ("__debug__" : Str)) = false := by decide +kernel) (he : starEach (e :: es) X.env = (false, eval e X.env) :: starEach es X.env := by rfl) (hpl : (backTo pos (starEach es X.env)).any (·.1) = false := by rfl) :
    EP X ρ (.Call (.Name x p) (e :: es) [] pos) (fun d ρ' => ∃ cs', Ψ cs' d ∧ ρ' = ρ.set i (.ox cs' d0)) :=
  ep_mono (ep_callL i (cs := cs) (cs2 := []) (d0 := d0) G hr hg (by rw [List.append_nil]; exact hi) ha hR hdb he hpl) fun d ρ' ⟨cs', w, e⟩ => ⟨cs', w, by rw [e, List.append_nil]⟩
end
section
variable {X : Cx} {ρ : En} {e e1 e2 : Expr} {Φ : Out → Prop}
/-- if not e: .., e gives True and changes slots -/
theorem ws_ifNotP {Ψ : D → En → Prop} {sa sb : List Stmt} {p1 p2 : Pos} (h : EP X ρ e Ψ) (hb : ∀ d ρ', Ψ d ρ' → d = .bl true) (h3 : ∀ d ρ', Ψ d ρ' → WSs X sb ρ' Φ)
    (he : ∀ whole, isTrue e X.env whole = (do let v ← whole; standAt e.pos; holding [v] (truthy v)) := by intro _; rfl) : WS X (.If (.UnaryOp .Not e p1) sa sb p2) ρ Φ :=
  ws_ifP (tp_not (tp_val h (fun d ρ' w => ⟨true, hb d ρ' w⟩) he)) (fun ρ' w => by have := hb _ _ w; cases this) (fun ρ' w => h3 _ _ w)
/-- f(e1, e2), e1 changes slots -/
theorem ep_callP2 {x : Str} {k : Nat} {R : List D → D → Prop} {pos p : Pos} {Ψ : D → En → Prop} {d0 : D} (G : Fn X.prog X.w X.K X.mg X.base x k R) (hr : Room k X.A) (hg : Gl X x) (h1 : EP X ρ e1 Ψ) (h2 : ∀ d ρ', Ψ d ρ' → ∃ d2, ED X ρ' e2 d2 ∧ R [d, d2] d0)
    (hdb : (x == ("__debug__" : Str)) = false := by decide +kernel) (s1 : starEach [e1, e2] X.env = (false, eval e1 X.env) :: starEach [e2] X.env := by rfl) (s2 : starEach [e2] X.env = (false, eval e2 X.env) :: starEach [] X.env := by rfl) (hpl : (backTo pos (starEach [e2] X.env)).any (·.1) = false := by rfl) :
    EP X ρ (.Call (.Name x p) [e1, e2] [] pos) (fun d ρ' => d = d0 ∧ ∃ d', Ψ d' ρ') := fun B0 B σ H0 H Q j kk => by
  obtain ⟨f, fd, ps, F, hm, hk, hb⟩ := G.ex
  refine RE.of (pe_call (E := E0) F hr hg hm hk hb .nil pass0 (pa_cons pe_star (pa_cons pe_star pa_nil s2) s1) hdb s1 hpl) (h1 B0 B σ H0 H _ j fun d ρ' v G0 G w t1 j1 r => ?_)
  obtain ⟨d2, h3, h4⟩ := h2 d ρ' w
  refine h3 B0 B σ G0 G _ j1 fun v2 L0 L g2 r2 => ?_
  exact ⟨L0, [d, d2], d0, (j1.grow g2).hp.sh, ⟨v, _, rfl, DR.mono g2.s0 _ _ r, v2, _, rfl, r2, rfl⟩, h4, fun v3 M0 M g3 r3 => kk d0 ρ' v3 M0 M ⟨rfl, d, w⟩ (t1.trans (g2.s0.trans g3.s0)) ((j1.grow g2).grow g3) r3⟩
end
end DL
namespace DL
open PySem PySem.Spec PyProof.Rows L2
open PySem.W (dataLe dataLt alike)
def labK (v : Lab) : List Key := [.inr v.n, .inr v.l, .inl v.x, .inl v.y]
theorem lab_ext {v u : Lab} (h1 : v.n = u.n) (h2 : v.l = u.l) (h3 : v.x = u.x) (h4 : v.y = u.y) : v = u := by
  cases v; cases u; simp only at h1 h2 h3 h4; rw [h1, h2, h3, h4]
theorem labK_inj (v u : Lab) (h : labK v = labK u) : v = u := by
  unfold labK at h
  simp only [List.cons.injEq, Sum.inr.injEq, Sum.inl.injEq, and_true] at h
  exact lab_ext h.1 h.2.1 h.2.2.1 h.2.2.2
/-- each label once, ascending -/
instance : DecidableEq Lab := fun a b => if h : labK a = labK b then isTrue (labK_inj a b h) else isFalse fun e => h (by rw [e])
end DL
namespace DL
open PySem PySem.Spec PyProof.Rows L2
open PySem.W (dataLe dataLt alike)
theorem layN_nd : layN.Nodup := by decide +kernel
def ShV (S : List Shp) : Prop := ∀ s ∈ S, s.2.a < s.2.c ∧ s.2.b < s.2.d
end DL
namespace DL
open PySem PySem.Spec PyProof.Rows L2
theorem CirOk.perm {n : Int} {N M : List Nm} {V : List Dev} (ok : CirOk n N V) (p : M.Perm N) : CirOk n M V :=
  ⟨ok.nn, fun q hq => ok.nm q (p.mem_iff.mp hq), (p.map _).nodup_iff.mpr ok.d1, (p.map _).nodup_iff.mpr ok.d2, by rw [p.length_eq]; exact ok.nl, ok.vl, ok.dv⟩
theorem CirOk.filter {n : Int} {N : List Nm} {V : List Dev} (ok : CirOk n N V) (p : Nm → Bool) : CirOk n (N.filter p) V :=
  ⟨ok.nn, fun q hq => ok.nm q (List.mem_filter.mp hq).1, ok.d1.sublist (List.Sublist.map _ List.filter_sublist), ok.d2.sublist (List.Sublist.map _ List.filter_sublist), Nat.le_trans (List.length_filter_le _ _) ok.nl, ok.vl, ok.dv⟩
end DL
namespace DL
open PySem PySem.Spec PyProof.Rows L2
theorem DevOk.up {n m : Int} {v : Dev} (h : DevOk n v) (hm : n ≤ m) : DevOk m v := ⟨h.k, ⟨h.g.1, by have := h.g.2; omega⟩, ⟨h.e.1, h.e.2.1, by have := h.e.2.2; omega⟩, h.w, h.l⟩
theorem CirOk.up {n : Int} {N : List Nm} {V : List Dev} (ok : CirOk n N V) (h : n ≤ 100) : CirOk (n + 1) N V :=
  ⟨by have := ok.nn; omega, fun q hq => ⟨by have := (ok.nm q hq).1; omega, (ok.nm q hq).2⟩, ok.d1, ok.d2, ok.nl, ok.vl, fun v hv => (ok.dv v hv).up (by omega)⟩
theorem CirOk.more {n : Int} {N : List Nm} {V : List Dev} {z : Str} (ok : CirOk n N V) (h : n ≤ 100) (hl : N.length ≤ 100) (hz : nameB z = true) (hn : ∀ q ∈ N, q.2 ≠ z) : CirOk (n + 1) (N ++ [(n, z)]) V := by
  have up := ok.up h
  refine ⟨up.nn, fun q hq => ?_, ?_, ?_, by rw [List.length_append]; simp only [List.length_cons, List.length_nil]; omega, ok.vl, up.dv⟩
  · rcases List.mem_append.mp hq with hq | hq
    · exact up.nm q hq
    · rw [List.mem_singleton] at hq; subst hq
      exact ⟨by have := ok.nn; simp only; omega, hz⟩
  · rw [List.map_append, List.nodup_append]
    refine ⟨ok.d1, by simp, fun a ha b hb e => ?_⟩
    obtain ⟨q, hq, rfl⟩ := List.mem_map.mp ha
    simp only [List.map_cons, List.map_nil, List.mem_singleton] at hb
    have := (ok.nm q hq).1
    omega
  · rw [List.map_append, List.nodup_append]
    refine ⟨ok.d2, by simp, fun a ha b hb e => ?_⟩
    obtain ⟨q, hq, rfl⟩ := List.mem_map.mp ha
    simp only [List.map_cons, List.map_nil, List.mem_singleton] at hb
    exact hn q hq (e.trans hb)
theorem CirOk.devs {n : Int} {N : List Nm} {V W : List Dev} (ok : CirOk n N V) (h : W.length ≤ 200) (hd : ∀ v ∈ W, DevOk n v) : CirOk n N W := ⟨ok.nn, ok.nm, ok.d1, ok.d2, ok.nl, h, hd⟩
theorem CirOk.names {n : Int} {N M : List Nm} {V : List Dev} (ok : CirOk n N V) (h : M.Sublist N) : CirOk n M V :=
  ⟨ok.nn, fun q hq => ok.nm q (h.subset hq), (h.map _).nodup ok.d1, (h.map _).nodup ok.d2, Nat.le_trans h.length_le ok.nl, ok.vl, ok.dv⟩
def zz : Str := "zz9z"
theorem zz_ok : nameB zz = true := by decide +kernel
def wid (v : Dev) : Dev := ⟨v.k, v.g, v.a, v.b, v.w + 1, v.l⟩
theorem wid_ok {n : Int} {v : Dev} (h : DevOk n v) : DevOk n (wid v) := ⟨h.k, h.g, h.e, by have := h.w; show 1 ≤ v.w + 1; omega, h.l⟩
/-- all the law needs of a drawn circuit -/
structure Drn (n : Int) (N : List Nm) (V : List Dev) : Prop where
  ok : CirOk n N V
  n : n ≤ 14
  nl : N.length ≤ 14
  vl : V.length ≤ 12
  z : ∀ q ∈ N, q.2 ≠ zz
section
variable {n : Int} {N : List Nm} {V V0 : List Dev} {v : Dev}
theorem Drn.a (h : Drn n N V) : CirOk (n + 1) N V := h.ok.up (by have := h.n; omega)
theorem Drn.b (h : Drn n N V) : CirOk (n + 1) (N ++ [(n, zz)]) V := h.ok.more (by have := h.n; omega) (by have := h.nl; omega) zz_ok h.z
theorem Drn.c (h : Drn n N V) (e : V = V0 ++ [v]) : CirOk n N V0 := h.ok.devs (by have := h.vl; rw [e, List.length_append] at this; omega) fun w hw => h.ok.dv w (by rw [e]; simp [hw])
theorem Drn.d (h : Drn n N V) (e : V = V0 ++ [v]) : CirOk n N (V ++ [v]) := h.ok.devs (by have := h.vl; rw [List.length_append]; simp only [List.length_cons, List.length_nil]; omega) fun w hw => by
  rcases List.mem_append.mp hw with hw | hw
  · exact h.ok.dv w hw
  · rw [List.mem_singleton] at hw; subst hw; exact h.ok.dv w (by rw [e]; simp)
theorem Drn.e (h : Drn n N V) (e : V = V0 ++ [v]) : CirOk n N (V0 ++ [wid v]) := h.ok.devs (by have := h.vl; rw [e] at this; rw [List.length_append] at this ⊢; exact Nat.le_trans this (by omega)) fun w hw => by
  rcases List.mem_append.mp hw with hw | hw
  · exact h.ok.dv w (by rw [e]; simp [hw])
  · rw [List.mem_singleton] at hw; subst hw; exact wid_ok (h.ok.dv v (by rw [e]; simp))
theorem Drn.g (h : Drn n N V) : CirOk n (N.drop 1) V := h.ok.names (List.drop_sublist 1 N)
theorem Drn.r (h : Drn n N V) : CirOk n N.reverse V := h.ok.perm N.reverse_perm
end
end DL
namespace DL
open PySem PySem.Spec PyProof.Rows L2
def ShS (S : List Shp) : Prop := ∀ s ∈ S, SB s.2 ∧ s.1 ∈ layN
end DL
namespace DL
open PySem PySem.Spec PyProof.Rows L2
structure StS where
  nb : List (Str × Bx)
  sh : List (Int × Str × Bx)
  ix : Str → IxS
  dn : List (Bool × Int)
  un : List (Bool × Int)
structure StA where
  pn : Addr
  ps : Addr
  pi : Addr
  pd : Addr
  pu : Addr
  ad : Str → Addr × Addr × Addr × Addr
def kSx (e : Int × Str × Bx) : Key := Sum.inl e.1
def dSx (e : Int × Str × Bx) : D := shE e.2
def dnS (b : Bool) : Str := if b = true then "added" else "removed"
def dnD (e : Bool × Int) : D := .tup [.str (dnS e.1), .int e.2]
def kLx (l : Str) : Key := Sum.inr l
abbrev stNm : List Str := ["_numbered", "_shapes", "_indexes", "_done", "_undone"]
def stH (x : Addr) (A : StA) (S : StS) : Cs := [(x, .ins "Store" stNm [.ad A.pn, .ad A.ps, .ad A.pi, .ad A.pd, .ad A.pu]), (A.pn, .lst (S.nb.map shE)), (A.ps, .dk (S.sh.map kSx) (S.sh.map dSx)), (A.pi, .dk (layN.map kLx) (layN.map fun l => D.ad (A.ad l).1)), (A.pd, .lst (S.dn.map dnD)), (A.pu, .lst (S.un.map dnD))]
noncomputable def stLx (q : Addr × Addr × Addr × Addr) (I : IxS) : Cs := ixCs q.1 q.2.1 q.2.2.1 q.2.2.2 I
noncomputable def stIx (A : StA) (S : StS) : Cs := layN.flatMap fun l => stLx (A.ad l) (S.ix l)
noncomputable def stCs (x : Addr) (A : StA) (S : StS) : Cs := stH x A S ++ stIx A S
noncomputable def stO (S : StS) : D := .obj "Store" stNm [.lst (S.nb.map shE), .dk (S.sh.map kSx) (S.sh.map dSx), .dk (layN.map kLx) (layN.map fun l => ixO (S.ix l)), .lst (S.dn.map dnD), .lst (S.un.map dnD)]
theorem dk_imp {K : PySem.W.Frag} {H : Hp} {ks : List Key} {ds es : List D} {v : V} (r : DR K H (.dk ks ds) v) (l : ds.length = es.length) (h : ∀ (i : Nat) d e, ds[i]? = some d → es[i]? = some e → ∀ u, DR K H d u → DR K H e u) : DR K H (.dk ks es) v := by
  obtain ⟨a, vs, h1, h2, h4, h3⟩ := r
  exact ⟨a, vs, h1, h2, h4, drs_imp l h h3⟩
theorem st_show {K : PySem.W.Frag} {H : Hp} {x : Addr} {A : StA} {S : StS} (v : V) (h : ∀ y ∈ stCs x A S, DR K H y.2.d (.ref y.1)) (w : DR K H (.ad x) v) : DR K H (stO S) v := by
  cases (show v = .ref x from w)
  have hm : ∀ y ∈ stH x A S, DR K H y.2.d (.ref y.1) := fun y hy => h y (List.mem_append_left _ hy)
  have hi : ∀ l ∈ layN, DR K H (ixO (S.ix l)) (.ref (A.ad l).1) := fun l hl => ix_show (x := (A.ad l).1) (p := (A.ad l).2.1) (q := (A.ad l).2.2.1) (r := (A.ad l).2.2.2) _ (fun y hy => h y (List.mem_append_right _ (List.mem_flatMap.mpr ⟨l, hl, hy⟩))) rfl
  refine obj_imp (hm (x, .ins "Store" stNm [.ad A.pn, .ad A.ps, .ad A.pi, .ad A.pd, .ad A.pu]) (by simp [stH])) rfl fun i d e h1 h2 u w => ?_
  match i, h1, h2 with
  | 0, h1, h2 => cases h1; cases h2; cases (show u = .ref A.pn from w); exact hm (A.pn, .lst (S.nb.map shE)) (by simp [stH])
  | 1, h1, h2 => cases h1; cases h2; cases (show u = .ref A.ps from w); exact hm (A.ps, .dk (S.sh.map kSx) (S.sh.map dSx)) (by simp [stH])
  | 2, h1, h2 =>
    cases h1; cases h2; cases (show u = .ref A.pi from w)
    refine dk_imp (hm (A.pi, .dk (layN.map kLx) (layN.map fun l => D.ad (A.ad l).1)) (by simp [stH])) (by simp) fun i d e h1 h2 u w => ?_
    rw [List.getElem?_map] at h1 h2
    cases hl : layN[i]? with
    | none => rw [hl] at h1; cases h1
    | some l =>
      rw [hl] at h1 h2
      cases h1; cases h2
      cases (show u = .ref (A.ad l).1 from w)
      exact hi l (List.mem_of_getElem? hl)
  | 3, h1, h2 => cases h1; cases h2; cases (show u = .ref A.pd from w); exact hm (A.pd, .lst (S.dn.map dnD)) (by simp [stH])
  | 4, h1, h2 => cases h1; cases h2; cases (show u = .ref A.pu from w); exact hm (A.pu, .lst (S.un.map dnD)) (by simp [stH])
  | i + 5, h1, h2 => simp at h1
def setF {α : Type} (f : Str → α) (l : Str) (v : α) : Str → α := fun k => if k = l then v else f k
theorem setF_at {α : Type} {f : Str → α} {l : Str} {v : α} : setF f l v l = v := if_pos rfl
theorem setF_ne {α : Type} {f : Str → α} {l k : Str} {v : α} (h : k ≠ l) : setF f l v k = f k := if_neg h
def StA.at (A : StA) (l : Str) (p q r : Addr) : StA := { A with ad := setF A.ad l ((A.ad l).1, p, q, r) }
def StS.at (S : StS) (l : Str) (I : IxS) : StS := { S with ix := setF S.ix l I }
def nbAt (nb : List (Str × Bx)) (n : Int) : Option (Str × Bx) := if 0 ≤ n then nb[n.toNat]? else none
theorem st_m0 {x : Addr} {A : StA} {S : StS} : (x, OC.ins "Store" stNm [.ad A.pn, .ad A.ps, .ad A.pi, .ad A.pd, .ad A.pu]) ∈ stCs x A S := by unfold stCs stH; simp
theorem st_m1 {x : Addr} {A : StA} {S : StS} : (A.pn, OC.lst (S.nb.map shE)) ∈ stCs x A S := by unfold stCs stH; simp
theorem st_m2 {x : Addr} {A : StA} {S : StS} : (A.ps, OC.dk (S.sh.map kSx) (S.sh.map dSx)) ∈ stCs x A S := by unfold stCs stH; simp
theorem st_f0 {x : Addr} {A : StA} {S : StS} {L R : Cs} : (x, OC.ins "Store" stNm [.ad A.pn, .ad A.ps, .ad A.pi, .ad A.pd, .ad A.pu]) ∈ L ++ (stH x A S ++ R) := by unfold stH; simp
theorem st_f3 {x : Addr} {A : StA} {S : StS} {L R : Cs} : (A.pi, OC.dk (layN.map kLx) (layN.map fun l => D.ad (A.ad l).1)) ∈ L ++ (stH x A S ++ R) := by unfold stH; simp
theorem st_mx {q : Addr × Addr × Addr × Addr} {I : IxS} : (q.1, OC.ins "LayerIndex" ixNm [.ad q.2.1, .ad q.2.2.1, .ad q.2.2.2, trD (build 3 I.it)]) ∈ stLx q I := by unfold stLx ixCs; simp
theorem nb_at {nb : List (Str × Bx)} {n : Int} {e : Str × Bx} (h : nbAt nb n = some e) : atI (nb.map shE) n = some (shE e) := by
  unfold nbAt at h
  split at h
  · rename_i h0
    obtain ⟨k, rfl⟩ := Int.eq_ofNat_of_zero_le h0
    rw [atI_nat]
    rw [Int.toNat_natCast] at h
    rw [List.getElem?_map, h]; rfl
  · cases h
theorem pm3 {α : Type} (P G Q : List α) : (P ++ (G ++ Q)).Perm (G ++ (P ++ Q)) := by
  rw [← List.append_assoc, ← List.append_assoc]
  exact List.Perm.append_right Q List.perm_append_comm
theorem st_front (x : Addr) (A : StA) (S : StS) {l : Str} (hl : l ∈ layN) : ∃ R : Cs, (stCs x A S).Perm (stLx (A.ad l) (S.ix l) ++ (stH x A S ++ R)) ∧ ∀ p q r I, (ixCs (A.ad l).1 p q r I ++ (stH x A S ++ R)).Perm (stCs x (A.at l p q r) (S.at l I)) := by
  obtain ⟨L1, L2, e⟩ := List.append_of_mem hl
  have nd := layN_nd
  rw [e, List.nodup_append, List.nodup_cons] at nd
  obtain ⟨n1, ⟨n2, _⟩, n3⟩ := nd
  have n1' : ∀ k ∈ L1, k ≠ l := fun k hk => n3 k hk l List.mem_cons_self
  have n2' : ∀ k ∈ L2, k ≠ l := fun k hk z => n2 (z ▸ hk)
  refine ⟨L1.flatMap (fun l => stLx (A.ad l) (S.ix l)) ++ L2.flatMap (fun l => stLx (A.ad l) (S.ix l)), ?_, fun p q r I => ?_⟩
  · unfold stCs stIx
    rw [e, List.flatMap_append, List.flatMap_cons]
    exact ((pm3 _ _ _).append_left _).trans (pm3 _ _ _)
  · have hH : stH x (A.at l p q r) (S.at l I) = stH x A S := by
      unfold stH StA.at StS.at
      have : (layN.map fun k => D.ad (setF A.ad l ((A.ad l).1, p, q, r) k).1) = layN.map fun k => D.ad (A.ad k).1 := by
        refine List.map_congr_left fun k _ => ?_
        by_cases h : k = l
        · subst h; rw [setF_at]
        · rw [setF_ne h]
      rw [this]
    have hc : ∀ L : List Str, (∀ k ∈ L, k ≠ l) → (L.flatMap fun k => stLx ((A.at l p q r).ad k) ((S.at l I).ix k)) = L.flatMap fun k => stLx (A.ad k) (S.ix k) := fun L h => by
      rw [List.flatMap_def, List.flatMap_def]
      congr 1
      refine List.map_congr_left fun k hk => ?_
      show stLx (setF A.ad l _ k) (setF S.ix l I k) = _
      rw [setF_ne (h k hk), setF_ne (h k hk)]
    unfold stCs stIx
    rw [hH, e, List.flatMap_append, List.flatMap_cons, hc L1 n1', hc L2 n2']
    have hg : stLx ((A.at l p q r).ad l) ((S.at l I).ix l) = ixCs (A.ad l).1 p q r I := by
      show stLx (setF A.ad l _ l) (setF S.ix l I l) = _
      rw [setF_at, setF_at]; rfl
    rw [hg]
    exact (((pm3 _ _ _).append_left _).trans (pm3 _ _ _)).symm
def fbN (nb : List (Str × Bx)) (n : Int) : Bx := ((nbAt nb n).map (·.2)).getD ⟨0, 0, 0, 0⟩
structure StOk (S : StS) : Prop where
  few : S.nb.length ≤ 40
  ly : ∀ e ∈ S.nb, e.1 ∈ layN
  sn : (S.sh.map (·.1)).Nodup
  se : ∀ e ∈ S.sh, nbAt S.nb e.1 = some e.2
  ix : ∀ l ∈ layN, IxOk (fbN S.nb) (S.ix l)
  ib : ∀ l ∈ layN, ∀ n, hasN (S.ix l).bx n = true ↔ ∃ b, (n, l, b) ∈ S.sh
  it : ∀ l ∈ layN, ∀ n, hasN (S.ix l).it n = true → (nbAt S.nb n).isSome = true
theorem nbAt_lt {nb : List (Str × Bx)} {n : Int} (h : (nbAt nb n).isSome = true) : 0 ≤ n ∧ n.toNat < nb.length := by
  unfold nbAt at h
  split at h
  · rename_i h0
    refine ⟨h0, ?_⟩
    cases e : nb[n.toNat]? with
    | none => rw [e] at h; cases h
    | some v => exact (List.getElem?_eq_some_iff.mp e).1
  · cases h
theorem pgn9 : ∀ {n : Nat} {K : List Int}, K.Nodup → (∀ i ∈ K, 0 ≤ i ∧ i.toNat < n) → K.length ≤ n
  | 0, [], _, _ => Nat.le_refl _
  | 0, a :: K, _, h => absurd (h a List.mem_cons_self).2 (by omega)
  | n + 1, K, nd, h => by
    have h1 := pgn9 (n := n) (K := K.erase (n : Int)) (nd.erase _) fun i hi => by
      have := h i (List.mem_of_mem_erase hi)
      have hne : i ≠ (n : Int) := fun z => by subst z; exact absurd hi (List.Nodup.not_mem_erase nd)
      omega
    have := List.length_erase (a := (n : Int)) (l := K)
    split at this <;> omega
theorem StOk.bxl {S : StS} (ok : StOk S) {l : Str} (hl : l ∈ layN) : (S.ix l).bx.length ≤ 40 := by
  have := pgn9 (n := S.nb.length) (ok.ix l hl).bn fun i hi => by
    obtain ⟨b, hb⟩ := (ok.ib l hl i).mp (decide_eq_true hi)
    exact nbAt_lt (by rw [ok.se _ hb]; rfl)
  rw [List.length_map] at this
  exact Nat.le_trans this ok.few
theorem StOk.itl {S : StS} (ok : StOk S) {l : Str} (hl : l ∈ layN) : (S.ix l).it.length ≤ 40 := by
  have := pgn9 (n := S.nb.length) (ok.ix l hl).tn fun i hi => nbAt_lt (ok.it l hl i (decide_eq_true hi))
  rw [List.length_map] at this
  exact Nat.le_trans this ok.few
theorem StOk.ltl {S : StS} (ok : StOk S) {l : Str} (hl : l ∈ layN) : (S.ix l).lt.length ≤ 40 := by
  have := pgn9 (n := S.nb.length) (ok.ix l hl).ln fun i hi => by
    obtain ⟨e, he, rfl⟩ := List.mem_map.mp hi
    obtain ⟨b, hb⟩ := (ok.ib l hl e.1).mp ((ok.ix l hl).lb e he).1
    exact nbAt_lt (by rw [ok.se _ hb]; rfl)
  rw [List.length_map] at this
  exact Nat.le_trans this ok.few
theorem StOk.shl {S : StS} (ok : StOk S) : S.sh.length ≤ 40 := by
  have := pgn9 (n := S.nb.length) ok.sn fun i hi => by
    obtain ⟨e, he, rfl⟩ := List.mem_map.mp hi
    exact nbAt_lt (by rw [ok.se _ he]; rfl)
  rw [List.length_map] at this
  exact Nat.le_trans this ok.few
theorem StOk.nbl {S : StS} (ok : StOk S) {n : Int} {l : Str} {b : Bx} (hn : nbAt S.nb n = some (l, b)) : l ∈ layN := by
  unfold nbAt at hn
  split at hn
  · exact ok.ly _ (List.mem_of_getElem? hn)
  · cases hn
theorem StOk.shL {S : StS} (ok : StOk S) {n : Int} {l : Str} {b : Bx} (hn : (n, l, b) ∈ S.sh) : l ∈ layN := ok.nbl (ok.se _ hn)
theorem StOk.bxno {S : StS} (ok : StOk S) {n : Int} {l : Str} (hl : l ∈ layN) (hs : n ∉ S.sh.map (·.1)) : hasN (S.ix l).bx n = false := by
  cases e : hasN (S.ix l).bx n with
  | false => rfl
  | true =>
    obtain ⟨b', hb'⟩ := (ok.ib l hl n).mp e
    exact absurd (List.mem_map.mpr ⟨_, hb', rfl⟩) hs
theorem StOk.ltno {S : StS} (ok : StOk S) {n : Int} {l : Str} (hl : l ∈ layN) (hs : n ∉ S.sh.map (·.1)) : hasN (S.ix l).lt n = false := by
  cases e : hasN (S.ix l).lt n with
  | false => rfl
  | true =>
    obtain ⟨f, h1, rfl⟩ := List.mem_map.mp (of_decide_eq_true e)
    have := ((ok.ix l hl).lb f h1).1
    rw [ok.bxno hl hs] at this; cases this
theorem kLx_nd : (layN.map kLx).Nodup := by
  have nd := layN_nd
  rw [List.nodup_iff_pairwise_ne] at nd
  rw [List.nodup_iff_pairwise_ne, List.pairwise_map]
  exact nd.imp fun {a b} q z => q (Sum.inr.inj z)
def StS.putIn (S : StS) (n : Int) (l : Str) (b : Bx) : StS := ⟨S.nb, S.sh ++ [(n, l, b)], setF S.ix l ((S.ix l).put n b), S.dn, S.un⟩
def delS (T : List (Int × Str × Bx)) (n : Int) : List (Int × Str × Bx) := T.filter fun e => decide (e.1 ≠ n)
def StS.takeOut (S : StS) (n : Int) (l : Str) : StS := ⟨S.nb, delS S.sh n, setF S.ix l ((S.ix l).out n), S.dn, S.un⟩
theorem mem_delS {T : List (Int × Str × Bx)} {n : Int} {e : Int × Str × Bx} : e ∈ delS T n ↔ e ∈ T ∧ e.1 ≠ n := by
  unfold delS; rw [List.mem_filter, decide_eq_true_iff]
theorem sh_eq {T : List (Int × Str × Bx)} (nd : (T.map (·.1)).Nodup) {n : Int} {e f : Str × Bx} (h : (n, e) ∈ T) (h' : (n, f) ∈ T) : e = f := by
  obtain ⟨i, hi⟩ := List.mem_iff_getElem?.mp h
  obtain ⟨j, hj⟩ := List.mem_iff_getElem?.mp h'
  have hi' : (T.map (·.1))[i]? = some n := by rw [List.getElem?_map, hi]; rfl
  have hj' : (T.map (·.1))[j]? = some n := by rw [List.getElem?_map, hj]; rfl
  obtain ⟨li, ei⟩ := List.getElem?_eq_some_iff.mp hi'
  obtain ⟨lj, ej⟩ := List.getElem?_eq_some_iff.mp hj'
  have : i = j := by
    rw [List.nodup_iff_pairwise_ne, List.pairwise_iff_getElem] at nd
    rcases Nat.lt_trichotomy i j with q | q | q
    · exact absurd (by rw [ei, ej]) (nd i j li lj q)
    · exact q
    · exact absurd (by rw [ei, ej]) (nd j i lj li q)
  subst this
  rw [hi] at hj
  cases hj; rfl
theorem fbN_of {nb : List (Str × Bx)} {n : Int} {e : Str × Bx} (h : nbAt nb n = some e) : fbN nb n = e.2 := by unfold fbN; rw [h]; rfl
theorem StOk.putIn {S : StS} (ok : StOk S) {n : Int} {l : Str} {b : Bx} (hn : nbAt S.nb n = some (l, b)) (hs : n ∉ S.sh.map (·.1)) : StOk (S.putIn n l b) := by
  have hlm : l ∈ layN := by
    have h := hn
    unfold nbAt at h
    split at h
    · exact ok.ly _ (List.mem_of_getElem? h)
    · cases h
  have hno : hasN (S.ix l).bx n = false := by
    cases e : hasN (S.ix l).bx n with
    | false => rfl
    | true =>
      obtain ⟨b', hb'⟩ := (ok.ib l hlm n).mp e
      exact absurd (List.mem_map.mpr ⟨_, hb', rfl⟩) hs
  refine ⟨ok.few, ok.ly, ?_, fun e he => ?_, fun k hk => ?_, fun k hk m => ?_, fun k hk m hm => ?_⟩
  · show ((S.sh ++ [(n, l, b)]).map (·.1)).Nodup
    rw [List.map_append, List.nodup_append]
    refine ⟨ok.sn, by simp, fun a ha c hc e => ?_⟩
    rw [List.map_cons, List.map_nil, List.mem_singleton] at hc
    subst e; subst hc; exact hs ha
  · rcases List.mem_append.mp he with he | he
    · exact ok.se e he
    · rw [List.mem_singleton.mp he]; exact hn
  · show IxOk _ (setF S.ix l _ k)
    by_cases h : k = l
    · subst h
      rw [setF_at]
      have := (ok.ix k hk).put hno
      rw [fbN_of hn] at this
      exact this
    · rw [setF_ne h]; exact ok.ix k hk
  · show hasN (setF S.ix l _ k).bx m = true ↔ ∃ b', (m, k, b') ∈ S.sh ++ [(n, l, b)]
    by_cases h : k = l
    · subst h
      rw [setF_at]
      show hasN ((S.ix k).bx ++ [(n, b)]) m = true ↔ _
      rw [hasN_app, hasN_one, Bool.or_eq_true, decide_eq_true_iff, ok.ib k hk m]
      constructor
      · rintro (⟨b', hb'⟩ | rfl)
        · exact ⟨b', List.mem_append_left _ hb'⟩
        · exact ⟨b, List.mem_append_right _ (List.mem_singleton.mpr rfl)⟩
      · rintro ⟨b', hb'⟩
        rcases List.mem_append.mp hb' with h9 | h9
        · exact .inl ⟨b', h9⟩
        · rw [List.mem_singleton] at h9; cases h9; exact .inr rfl
    · rw [setF_ne h, ok.ib k hk m]
      constructor
      · rintro ⟨b', hb'⟩; exact ⟨b', List.mem_append_left _ hb'⟩
      · rintro ⟨b', hb'⟩
        rcases List.mem_append.mp hb' with h9 | h9
        · exact ⟨b', h9⟩
        · rw [List.mem_singleton] at h9; cases h9; exact absurd rfl h
  · have hm' : hasN (setF S.ix l ((S.ix l).put n b) k).it m = true := hm
    by_cases h : k = l
    · subst h; rw [setF_at] at hm'; exact ok.it k hk m hm'
    · rw [setF_ne h] at hm'; exact ok.it k hk m hm'
theorem StOk.takeOut {S : StS} (ok : StOk S) {n : Int} {l : Str} {b : Bx} (hn : (n, l, b) ∈ S.sh) : StOk (S.takeOut n l) := by
  refine ⟨ok.few, ok.ly, ?_, fun e he => ok.se e (mem_delS.mp he).1, fun k hk => ?_, fun k hk m => ?_, fun k hk m hm => ?_⟩
  · exact ok.sn.sublist (List.Sublist.map _ List.filter_sublist)
  · show IxOk _ (setF S.ix l _ k)
    by_cases h : k = l
    · subst h; rw [setF_at]; exact (ok.ix k hk).out n
    · rw [setF_ne h]; exact ok.ix k hk
  · show hasN (setF S.ix l _ k).bx m = true ↔ ∃ b', (m, k, b') ∈ delS S.sh n
    by_cases h : k = l
    · subst h
      rw [setF_at]
      show hasN (delR (S.ix k).bx n) m = true ↔ _
      rw [hasN_del, Bool.and_eq_true, decide_eq_true_iff, ok.ib k hk m]
      constructor
      · rintro ⟨⟨b', hb'⟩, h2⟩; exact ⟨b', mem_delS.mpr ⟨hb', h2⟩⟩
      · rintro ⟨b', hb'⟩
        obtain ⟨h1, h2⟩ := mem_delS.mp hb'
        exact ⟨⟨b', h1⟩, h2⟩
    · rw [setF_ne h, ok.ib k hk m]
      constructor
      · rintro ⟨b', hb'⟩
        refine ⟨b', mem_delS.mpr ⟨hb', fun z => h ?_⟩⟩
        have z' : m = n := z
        subst z'
        have := sh_eq ok.sn hn hb'
        cases this; rfl
      · rintro ⟨b', hb'⟩; exact ⟨b', (mem_delS.mp hb').1⟩
  · have hm' : hasN (setF S.ix l ((S.ix l).out n) k).it m = true := hm
    by_cases h : k = l
    · subst h; rw [setF_at] at hm'; exact ok.it k hk m hm'
    · rw [setF_ne h] at hm'; exact ok.it k hk m hm'
theorem StOk.fresh {S : StS} (ok : StOk S) {l : Str} (hl : l ∈ layN) : StOk (S.at l (S.ix l).fresh) := by
  refine ⟨ok.few, ok.ly, ok.sn, ok.se, fun k hk => ?_, fun k hk m => ?_, fun k hk m hm => ?_⟩
  · show IxOk _ (setF S.ix l _ k)
    by_cases h : k = l
    · subst h; rw [setF_at]; exact (ok.ix k hk).fresh
    · rw [setF_ne h]; exact ok.ix k hk
  · show hasN (setF S.ix l _ k).bx m = true ↔ _
    by_cases h : k = l
    · subst h; rw [setF_at, fresh_bx]; exact ok.ib k hk m
    · rw [setF_ne h]; exact ok.ib k hk m
  · have hm' : hasN (setF S.ix l (S.ix l).fresh k).it m = true := hm
    by_cases h : k = l
    · subst h
      rw [setF_at] at hm'
      unfold IxS.fresh IxS.new at hm'
      split at hm'
      · obtain ⟨b, hb⟩ := (ok.ib k hk m).mp hm'
        show (nbAt S.nb m).isSome = true
        rw [ok.se _ hb]; rfl
      · exact ok.it k hk m hm'
    · rw [setF_ne h] at hm'; exact ok.it k hk m hm'
/-- a new number -/
def StS.numb (S : StS) (l : Str) (b : Bx) : StS := ⟨S.nb ++ [(l, b)], S.sh, S.ix, S.dn, S.un⟩
theorem nbAt_app {nb : List (Str × Bx)} {e : Str × Bx} {n : Int} (h : (nbAt nb n).isSome = true) : nbAt (nb ++ [e]) n = nbAt nb n := by
  obtain ⟨h0, h1⟩ := nbAt_lt h
  unfold nbAt
  rw [if_pos h0, if_pos h0, List.getElem?_append_left h1]
theorem nbAt_new (nb : List (Str × Bx)) (e : Str × Bx) : nbAt (nb ++ [e]) (nb.length : Int) = some e := by
  unfold nbAt
  rw [if_pos (by omega)]
  simp
theorem StOk.numb {S : StS} (ok : StOk S) {l : Str} {b : Bx} (hl : l ∈ layN) (hf : S.nb.length < 40) : StOk (S.numb l b) := by
  have same : ∀ n, (nbAt S.nb n).isSome = true → fbN (S.nb ++ [(l, b)]) n = fbN S.nb n := fun n h => by unfold fbN; rw [nbAt_app h]
  refine ⟨by show (S.nb ++ [(l, b)]).length ≤ 40; rw [List.length_append, List.length_singleton]; omega, fun e he => ?_, ok.sn, fun e he => ?_, fun k hk => ?_, ok.ib, fun k hk m hm => ?_⟩
  · rcases List.mem_append.mp he with he | he
    · exact ok.ly e he
    · rw [List.mem_singleton.mp he]; exact hl
  · show nbAt (S.nb ++ [(l, b)]) e.1 = some e.2
    rw [nbAt_app (by rw [ok.se e he]; rfl)]; exact ok.se e he
  · have o := ok.ix k hk
    have hb : ∀ e ∈ (S.ix k).bx, (nbAt S.nb e.1).isSome = true := fun e he => by
      obtain ⟨b', hb'⟩ := (ok.ib k hk e.1).mp (hasN_mem he)
      rw [ok.se _ hb']; rfl
    exact ⟨fun e he => by rw [o.bf e he]; exact (same _ (hb e he)).symm, fun e he => by rw [o.tf e he]; exact (same _ (ok.it k hk _ (hasN_mem he))).symm, fun e he => by
      rw [o.lf e he]
      obtain ⟨e', he', q⟩ := List.mem_map.mp (of_decide_eq_true (o.lb e he).1)
      exact (same _ (by rw [← q]; exact hb e' he')).symm, o.bn, o.tn, o.ln, o.lb, o.bl⟩
  · show (nbAt (S.nb ++ [(l, b)]) m).isSome = true
    rw [nbAt_app (ok.it k hk m hm)]; exact ok.it k hk m hm
def st0 : StS := ⟨[], [], fun _ => ⟨[], [], []⟩, [], []⟩
theorem st0_ok : StOk st0 := ⟨by decide, (fun e h => by cases h), List.nodup_nil, (fun e h => by cases h), fun l hl => ⟨(fun e h => by cases h), (fun e h => by cases h), (fun e h => by cases h), List.nodup_nil, List.nodup_nil, List.nodup_nil, (fun e h => by cases h), (fun e h => by cases h)⟩, (fun l hl n => ⟨(fun h => nomatch h), (fun h => (by obtain ⟨b, h⟩ := h; cases h))⟩), (fun l hl n h => nomatch h)⟩
def StS.log (S : StS) (k : Bool) (n : Int) : StS := ⟨S.nb, S.sh, S.ix, S.dn ++ [(k, n)], []⟩
theorem StOk.cong {S S' : StS} (ok : StOk S) (h1 : S'.nb = S.nb) (h2 : S'.sh = S.sh) (h3 : S'.ix = S.ix) : StOk S' := by
  cases S; cases S'
  simp only at h1 h2 h3
  subst h1; subst h2; subst h3
  exact ⟨ok.few, ok.ly, ok.sn, ok.se, ok.ix, ok.ib, ok.it⟩
theorem mem_kSx {T : List (Int × Str × Bx)} {n : Int} : (Sum.inl n : Key) ∈ T.map kSx ↔ n ∈ T.map (·.1) := by
  rw [List.mem_map, List.mem_map]
  constructor
  · rintro ⟨e, h, q⟩; exact ⟨e, h, Sum.inl.inj q⟩
  · rintro ⟨e, h, q⟩; exact ⟨e, h, by unfold kSx; rw [q]⟩
theorem kSx_nd {T : List (Int × Str × Bx)} (h : (T.map (·.1)).Nodup) : (T.map kSx).Nodup := by
  rw [List.nodup_iff_pairwise_ne, List.pairwise_map] at h ⊢
  exact h.imp fun {a b} q z => q (Sum.inl.inj z)
theorem lookK_sx {T : List (Int × Str × Bx)} (nd : (T.map (·.1)).Nodup) {n : Int} {e : Str × Bx} (h : (n, e) ∈ T) : lookK (T.map kSx) (T.map dSx) (.inl n) = some (shE e) := by
  obtain ⟨i, hi⟩ := List.mem_iff_getElem?.mp h
  exact lookK_get (i := i) (kSx_nd nd) (by rw [List.getElem?_map, hi]; rfl) (by rw [List.getElem?_map, hi]; rfl)
theorem lookK_lx {f : Str → D} {l : Str} (h : l ∈ layN) : lookK (layN.map kLx) (layN.map f) (.inr l) = some (f l) := by
  obtain ⟨i, hi⟩ := List.mem_iff_getElem?.mp h
  refine lookK_get (i := i) ?_ (by rw [List.getElem?_map, hi]; rfl) (by rw [List.getElem?_map, hi]; rfl)
  have nd := layN_nd
  rw [List.nodup_iff_pairwise_ne] at nd
  rw [List.nodup_iff_pairwise_ne, List.pairwise_map]
  exact nd.imp fun {a b} q z => q (Sum.inr.inj z)
theorem delK_sx (n : Int) : ∀ l : List (Int × Str × Bx), delK (l.map kSx) (.inl n) = (delS l n).map kSx
  | [] => rfl
  | e :: l => by
    have ih := delK_sx n l
    unfold delK delS at *
    rw [List.map_cons]
    by_cases h : e.1 = n
    · have h1 : kSx e = Sum.inl n := by unfold kSx; rw [h]
      rw [List.filter_cons_of_neg (by simp [h1]), List.filter_cons_of_neg (by simp [h])]; exact ih
    · have h1 : ¬ kSx e = Sum.inl n := fun z => h (Sum.inl.inj z)
      rw [List.filter_cons_of_pos (by simp [h1]), List.filter_cons_of_pos (by simp [h]), List.map_cons, ih]
theorem delV_sx (n : Int) : ∀ l : List (Int × Str × Bx), delV (l.map kSx) (l.map dSx) (.inl n) = (delS l n).map dSx
  | [] => rfl
  | e :: l => by
    have ih := delV_sx n l
    unfold delS at *
    rw [List.map_cons, List.map_cons]
    unfold delV
    by_cases h : e.1 = n
    · rw [if_pos (by unfold kSx; rw [h]), List.filter_cons_of_neg (by simp [h])]; exact ih
    · rw [if_neg (show ¬ kSx e = Sum.inl n from fun z => h (Sum.inl.inj z)), List.filter_cons_of_pos (by simp [h]), List.map_cons, ih]
theorem sh_key {T : List (Int × Str × Bx)} {n : Int} {e : Str × Bx} (h : (n, e) ∈ T) : n ∈ T.map (·.1) := List.mem_map.mpr ⟨_, h, rfl⟩
theorem has_sx (T : List (Int × Str × Bx)) (n : Int) : hasK (T.map kSx) (.inl n) = decide (n ∈ T.map (·.1)) := by
  rw [Bool.eq_iff_iff, hasK_iff, decide_eq_true_iff, mem_kSx]
def StS.logd (S : StS) (k : Bool) (n : Int) : StS := ⟨S.nb, S.sh, S.ix, S.dn ++ [(k, n)], S.un⟩
def StS.unl (S : StS) (u : List (Bool × Int)) : StS := ⟨S.nb, S.sh, S.ix, S.dn, u⟩
def StS.does (S : StS) (k : Bool) (n : Int) (l : Str) (b : Bx) : StS := match k with
  | true => S.putIn n l b
  | false => S.takeOut n l
def StDo (S : StS) (k : Bool) (n : Int) (l : Str) (b : Bx) : Prop := match k with
  | true => nbAt S.nb n = some (l, b) ∧ n ∉ S.sh.map (·.1)
  | false => (n, l, b) ∈ S.sh
def StS.chg (S : StS) (k : Bool) (n : Int) (l : Str) (b : Bx) : StS := ((S.unl []).logd k n).does k n l b
def StS.add (S : StS) (l : Str) (b : Bx) : StS := (S.numb l b).chg true (S.nb.length : Int) l b
theorem StOk.new9 {S : StS} (ok : StOk S) : (S.nb.length : Int) ∉ S.sh.map (·.1) := fun h => by
  obtain ⟨e, he, q⟩ := List.mem_map.mp h
  have := nbAt_lt (nb := S.nb) (n := e.1) (by rw [ok.se e he]; rfl)
  rw [q] at this
  omega
theorem StOk.does {S : StS} (ok : StOk S) {k : Bool} {n : Int} {l : Str} {b : Bx} (h : StDo S k n l b) : StOk (S.does k n l b) := by
  cases k with
  | true => exact ok.putIn h.1 h.2
  | false => exact ok.takeOut h
theorem StOk.chg {S : StS} (ok : StOk S) {k : Bool} {n : Int} {l : Str} {b : Bx} (h : StDo S k n l b) : StOk (S.chg k n l b) := by
  have ok2 : StOk ((S.unl []).logd k n) := ok.cong rfl rfl rfl
  exact ok2.does (by cases k <;> exact h)
theorem StOk.add {S : StS} (ok : StOk S) {l : Str} {b : Bx} (hl : l ∈ layN) (hf : S.nb.length < 40) : StOk (S.add l b) := (ok.numb hl hf).chg (k := true) ⟨nbAt_new S.nb (l, b), ok.new9⟩
theorem st_cons (x : Addr) (A : StA) (S : StS) : stCs x A S = (x, OC.ins "Store" stNm [.ad A.pn, .ad A.ps, .ad A.pi, .ad A.pd, .ad A.pu]) :: ([(A.pn, OC.lst (S.nb.map shE)), (A.ps, .dk (S.sh.map kSx) (S.sh.map dSx)), (A.pi, .dk (layN.map kLx) (layN.map fun l => D.ad (A.ad l).1)), (A.pd, .lst (S.dn.map dnD)), (A.pu, .lst (S.un.map dnD))] ++ stIx A S) := rfl
theorem st_undone (x : Addr) (A : StA) (S : StS) (q : Addr) : List.Perm ((x, OC.ins "Store" stNm ([D.ad A.pn, .ad A.ps, .ad A.pi, .ad A.pd, .ad A.pu].set 4 (.ad q))) :: (([(A.pn, OC.lst (S.nb.map shE)), (A.ps, .dk (S.sh.map kSx) (S.sh.map dSx)), (A.pi, .dk (layN.map kLx) (layN.map fun l => D.ad (A.ad l).1)), (A.pd, .lst (S.dn.map dnD)), (A.pu, .lst (S.un.map dnD))] ++ stIx A S) ++ [(q, .lst [])])) ((A.pu, .lst (S.un.map dnD)) :: stCs x { A with pu := q } (S.unl [])) := by
  show List.Perm _ ((A.pu, OC.lst (S.un.map dnD)) :: (x, OC.ins "Store" stNm [.ad A.pn, .ad A.ps, .ad A.pi, .ad A.pd, .ad q]) :: (A.pn, OC.lst (S.nb.map shE)) :: (A.ps, .dk (S.sh.map kSx) (S.sh.map dSx)) :: (A.pi, .dk (layN.map kLx) (layN.map fun l => D.ad (A.ad l).1)) :: (A.pd, .lst (S.dn.map dnD)) :: (q, .lst []) :: stIx A S)
  refine List.Perm.trans ?_ (List.perm_middle (l₁ := [(x, OC.ins "Store" stNm [.ad A.pn, .ad A.ps, .ad A.pi, .ad A.pd, .ad q]), (A.pn, OC.lst (S.nb.map shE)), (A.ps, .dk (S.sh.map kSx) (S.sh.map dSx)), (A.pi, .dk (layN.map kLx) (layN.map fun l => D.ad (A.ad l).1)), (A.pd, .lst (S.dn.map dnD))]))
  exact .cons _ (.cons _ (.cons _ (.cons _ (.cons _ (.cons _ (List.perm_append_singleton _ _))))))
def fndSx (T : List (Int × Str × Bx)) (l : Str) (w : Bx) : List Int := srtI ((T.filter fun e => decide (e.2.1 = l) && hitB e.2.2 w).map (·.1))
theorem StOk.found {S : StS} (ok : StOk S) {l : Str} (hl : l ∈ layN) (w : Bx) : srtI (((S.ix l).bx.filter fun e => hitB e.2 w).map (·.1)) = fndSx S.sh l w := by
  unfold fndSx
  refine srtI_eq ((srtI_perm _).trans ?_) (srtI_srt _)
  refine (List.perm_ext_iff_of_nodup ((ok.ix l hl).bn.sublist (List.Sublist.map _ List.filter_sublist)) (ok.sn.sublist (List.Sublist.map _ List.filter_sublist))).mpr fun n => ?_
  rw [List.mem_map, List.mem_map]
  constructor
  · rintro ⟨e, he, rfl⟩
    rw [List.mem_filter] at he
    obtain ⟨b, hb⟩ := (ok.ib l hl e.1).mp (hasN_mem he.1)
    have h1 := (ok.ix l hl).bf e he.1
    rw [fbN_of (ok.se _ hb)] at h1
    refine ⟨_, List.mem_filter.mpr ⟨hb, ?_⟩, rfl⟩
    have h2 := he.2
    rw [h1] at h2
    rw [Bool.and_eq_true]
    exact ⟨decide_eq_true rfl, h2⟩
  · rintro ⟨⟨m, k, b⟩, he, rfl⟩
    rw [List.mem_filter, Bool.and_eq_true, decide_eq_true_iff] at he
    obtain ⟨h1, h2, h3⟩ := he
    have h2' : k = l := h2
    subst h2'
    obtain ⟨e, he, hem⟩ := List.mem_map.mp (of_decide_eq_true ((ok.ib k hl m).mpr ⟨b, h1⟩))
    refine ⟨e, List.mem_filter.mpr ⟨he, ?_⟩, hem⟩
    have h4 := (ok.ix k hl).bf e he
    have hem' : e.1 = m := hem
    rw [hem', fbN_of (ok.se _ h1)] at h4
    rw [h4]; exact h3
theorem fndSx_perm {T U : List (Int × Str × Bx)} (p : T.Perm U) (l : Str) (w : Bx) : fndSx T l w = fndSx U l w := by
  unfold fndSx
  exact srtI_eq ((srtI_perm _).trans ((p.filter _).map _)) (srtI_srt _)
/-- what the law finds: the ascending numbers are asked one by one -/
def lkT9 (T : List (Int × Str × Bx)) (n : Int) : Str × Bx := ((T.find? fun e => decide (e.1 = n)).map (·.2)).getD ("", ⟨0, 0, 0, 0⟩)
theorem lkT9_of {T : List (Int × Str × Bx)} (nd : (T.map (·.1)).Nodup) {n : Int} {e : Str × Bx} (h : (n, e) ∈ T) : lkT9 T n = e := by
  unfold lkT9
  cases hf : T.find? fun e => decide (e.1 = n) with
  | none => exact absurd (List.find?_eq_none.mp hf _ h) (by simp)
  | some f =>
    have h1 := List.mem_of_find?_eq_some hf
    have h2 : f.1 = n := of_decide_eq_true (List.find?_some (p := fun e : Int × Str × Bx => decide (e.1 = n)) hf)
    obtain ⟨m, g⟩ := f
    have h2' : m = n := h2
    subst h2'
    exact sh_eq nd h1 h
theorem fndSx_law {T : List (Int × Str × Bx)} (nd : (T.map (·.1)).Nodup) (l : Str) (w : Bx) : (srtI (T.map (·.1))).filter (fun n => decide ((lkT9 T n).1 = l) && hitB (lkT9 T n).2 w) = fndSx T l w := by
  unfold fndSx
  refine srtI_eq ?_ ((srtI_srt _).filter _)
  refine ((srtI_perm _).filter _).trans ?_
  have key : ∀ U : List (Int × Str × Bx), (∀ e ∈ U, e ∈ T) → (U.map (·.1)).filter (fun n => decide ((lkT9 T n).1 = l) && hitB (lkT9 T n).2 w) = (U.filter fun e => decide (e.2.1 = l) && hitB e.2.2 w).map (·.1) := by
    intro U
    induction U with
    | nil => intro _; rfl
    | cons e U ih =>
      intro hU
      have h1 := lkT9_of nd (hU e List.mem_cons_self)
      rw [List.map_cons]
      by_cases q : (decide (e.2.1 = l) && hitB e.2.2 w) = true
      · rw [List.filter_cons_of_pos (by rw [h1]; exact q), List.filter_cons_of_pos (p := fun e : Int × Str × Bx => decide (e.2.1 = l) && hitB e.2.2 w) q, List.map_cons, ih fun x hx => hU x (List.mem_cons_of_mem _ hx)]
      · rw [List.filter_cons_of_neg (by rw [h1]; exact q), List.filter_cons_of_neg (p := fun e : Int × Str × Bx => decide (e.2.1 = l) && hitB e.2.2 w) q, ih fun x hx => hU x (List.mem_cons_of_mem _ hx)]
  rw [key T fun _ h => h]
theorem hitB_meets {b w : Bx} (vb : b.a < b.c ∧ b.b < b.d) (vw : w.a < w.c ∧ w.b < w.d) : hitB b w = (decide (b.a < w.c) && decide (w.a < b.c) && decide (b.b < w.d) && decide (w.b < b.d)) := by
  unfold hitB
  rw [Bool.eq_iff_iff]
  simp only [Bool.and_eq_true, decide_eq_true_iff]
  omega
theorem hitB_sq {b : Bx} (vb : b.a < b.c ∧ b.b < b.d) (x y : Int) : hitB b ⟨x, y, x + 1, y + 1⟩ = ((decide (b.a ≤ x) && decide (x < b.c)) && (decide (b.b ≤ y) && decide (y < b.d))) := by
  unfold hitB
  rw [Bool.eq_iff_iff]
  simp only [Bool.and_eq_true, decide_eq_true_iff]
  omega
def mtB (b w : Bx) : Bool := decide (b.a < w.c) && (decide (w.a < b.c) && (decide (b.b < w.d) && decide (w.b < b.d)))
theorem hit_mt {b w : Bx} (vb : b.a < b.c ∧ b.b < b.d) (vw : w.a < w.c ∧ w.b < w.d) : mtB b w = hitB b w := by
  rw [hitB_meets vb vw]
  unfold mtB
  simp only [Bool.and_assoc]
structure SamS (S S' : StS) : Prop where
  nb : S'.nb = S.nb
  sh : S'.sh = S.sh
  dn : S'.dn = S.dn
  un : S'.un = S.un
theorem sam_refl (S : StS) : SamS S S := ⟨rfl, rfl, rfl, rfl⟩
def ShW (W : List Shp) : Prop := ∀ q ∈ W, q.1 ∈ layN ∧ q.2.a < q.2.c ∧ q.2.b < q.2.d
theorem nums_eq {T U : List (Int × Str × Bx)} (p : T.Perm U) : srtI (T.map (·.1)) = srtI (U.map (·.1)) := srtI_eq ((srtI_perm _).trans (p.map _)) (srtI_srt _)
theorem lk_mem {T : List (Int × Str × Bx)} (nd : (T.map (·.1)).Nodup) {z : Int} (h : z ∈ srtI (T.map (·.1))) : (z, lkT9 T z) ∈ T := by
  rw [(srtI_perm _).mem_iff] at h
  obtain ⟨e, he, rfl⟩ := List.mem_map.mp h
  have := lkT9_of (n := e.1) (e := e.2) nd he
  rw [this]; exact he
theorem lk_v {T : List (Int × Str × Bx)} (nd : (T.map (·.1)).Nodup) (v : ShV (T.map (·.2))) {z : Int} (h : z ∈ srtI (T.map (·.1))) : (lkT9 T z).2.a < (lkT9 T z).2.c ∧ (lkT9 T z).2.b < (lkT9 T z).2.d := v _ (List.mem_map.mpr ⟨_, lk_mem nd h, rfl⟩)
theorem fndSx_len (T : List (Int × Str × Bx)) (l : Str) (w : Bx) : (fndSx T l w).length ≤ T.length := by
  unfold fndSx
  rw [(srtI_perm _).length_eq, List.length_map]
  exact List.length_filter_le _ _
theorem fndSx_perm9 {T U V : List (Int × Str × Bx)} (p : T.Perm U) (e : V = U) {l : Str} {w : Bx} : fndSx V l w = fndSx T l w := by rw [e, fndSx_perm p]
theorem md_sh2 {k : Nat} {l : Str} {b : Bx} : ∀ d ∈ [D.str l, b.e], MD (k + 1) d := md_cons md_str (md_cons (md_tup (by simp) (md_cons md_int (md_cons md_int (md_cons md_int (md_cons md_int md_nil))))) md_nil)
def bxA (a b : Int) : Bx := ⟨bx0 a, by0 a, bx1 a, by1 a b⟩
theorem bxA_sb (a b : Int) : SB (bxA a b) := by
  unfold SB bxA bx0 by0 bx1 by1
  simp only
  omega
theorem getD_in {xs ys : List Str} {d : Str} (h : ∀ x ∈ xs, x ∈ ys) {i : Nat} (hi : i < xs.length) : xs.getD i d ∈ ys := by
  rw [List.getD_eq_getElem?_getD, List.getElem?_eq_getElem hi]
  exact h _ (List.getElem_mem hi)
structure LwS (i : Nat) (S : StS) : Prop where
  ok : StOk S
  nl : S.nb.length ≤ i
  dl : S.dn.length ≤ i
  sb : ∀ e ∈ S.nb, SB e.2
theorem nb_mem {nb : List (Str × Bx)} {n : Int} {e : Str × Bx} (h : nbAt nb n = some e) : e ∈ nb := by
  unfold nbAt at h
  split at h
  · exact List.mem_of_getElem? h
  · cases h
theorem LwS.sh {i : Nat} {S : StS} (h : LwS i S) : ShS (S.sh.map (·.2)) := fun s hs => by
  obtain ⟨e, he, rfl⟩ := List.mem_map.mp hs
  have h1 := h.ok.se e he
  exact ⟨h.sb _ (nb_mem h1), h.ok.ly _ (nb_mem h1)⟩
theorem LwS.add {i : Nat} {S : StS} (h : LwS i S) {l : Str} {b : Bx} (hl : l ∈ layN) (hb : SB b) (hf : S.nb.length < 40) : LwS (i + 1) (S.add l b) := by
  refine ⟨h.ok.add hl hf, ?_, ?_, fun e he => ?_⟩
  · show (S.nb ++ [(l, b)]).length ≤ i + 1
    have := h.nl; rw [List.length_append, List.length_singleton]; omega
  · show (S.dn ++ [(true, _)]).length ≤ i + 1
    have := h.dl; rw [List.length_append, List.length_singleton]; omega
  · rcases List.mem_append.mp (show e ∈ S.nb ++ [(l, b)] from he) with he | he
    · exact h.sb e he
    · rw [List.mem_singleton.mp he]; exact hb
theorem LwS.same {i : Nat} {S S' : StS} (h : LwS i S) (ok : StOk S') (sm : SamS S S') : LwS i S' := ⟨ok, by rw [sm.nb]; exact h.nl, by rw [sm.dn]; exact h.dl, by rw [sm.nb]; exact h.sb⟩
theorem LwS.up {i : Nat} {S : StS} (h : LwS i S) : LwS (i + 1) S := ⟨h.ok, Nat.le_succ_of_le h.nl, Nat.le_succ_of_le h.dl, h.sb⟩
theorem delS_no {T : List (Int × Str × Bx)} {n : Int} (h : n ∉ T.map (·.1)) : delS T n = T := by
  unfold delS
  rw [List.filter_eq_self]
  intro e he
  exact decide_eq_true fun z => h (List.mem_map.mpr ⟨e, he, z⟩)
theorem st_mk (x pn ps pi pd pu : Addr) : ∀ (g : List (Str × Addr × Cs)), (g.map (·.1)).Nodup → (∀ t ∈ g, ∃ p q r, t.2.2 = ixCs t.2.1 p q r ⟨[], [], []⟩) → ∃ ad : Str → Addr × Addr × Addr × Addr, (g.map fun t => D.ad t.2.1) = ((g.map (·.1)).map fun l => D.ad (ad l).1) ∧ g.flatMap (·.2.2) = (g.map (·.1)).flatMap fun l => stLx (ad l) ⟨[], [], []⟩
  | [], _, _ => ⟨fun _ => (pn, pn, pn, pn), rfl, rfl⟩
  | t :: g, nd, h => by
    rw [List.map_cons, List.nodup_cons] at nd
    obtain ⟨ad, h1, h2⟩ := st_mk x pn ps pi pd pu g nd.2 fun u hu => h u (List.mem_cons_of_mem _ hu)
    obtain ⟨p, q, r, e⟩ := h t List.mem_cons_self
    have ne : ∀ k ∈ g.map (·.1), setF ad t.1 (t.2.1, p, q, r) k = ad k := fun k hk => setF_ne fun z => nd.1 (z ▸ hk)
    refine ⟨setF ad t.1 (t.2.1, p, q, r), ?_, ?_⟩
    · rw [List.map_cons, List.map_cons, List.map_cons, setF_at, h1]
      congr 1
      exact List.map_congr_left fun k hk => by rw [ne k hk]
    · rw [List.flatMap_cons, List.map_cons, List.flatMap_cons, setF_at, h2, e]
      congr 1
      rw [List.flatMap_def, List.flatMap_def]
      congr 1
      exact List.map_congr_left fun k hk => by rw [ne k hk]
end DL
namespace DL
open PySem PySem.Spec PyProof.Rows L2
section
variable {X : Cx} {ρ : En} {pos : Pos} {Φ : Out → Prop}
/-- for .. in e: what stands at e is told beforehand -/
theorem ws_forKE {e : Expr} {ks : List Key} {es : List D} {tg : Expr} {body : List Stmt} (hc : X.calm = true) (tell : ∀ B0 B σ H0 H, J X.K B0 B σ H0 H ρ → ∃ a ρ1, DR X.K H0 (.dk ks es) (.ref a) ∧ J X.K B0 B σ H0 H ρ1 ∧ ED X ρ1 e (.ad a)) (I : Nat → En → Prop) (h0 : I 0 ρ)
    (hs : ∀ n q ρ', ks[n]? = some q → I n ρ' → ∃ is ρ'', DG X is tg (kD q) ρ' ρ'' ∧ WSs X body ρ'' (fun o => match o with | .nx r => I (n + 1) r | .ct r => I (n + 1) r | .bk r => Φ (.nx r) | .rt v => Φ (.rt v) | .ro c => Φ (.ro c) | .rc v cs => False)) (hd : ∀ ρ', I ks.length ρ' → Φ (.nx ρ'))
    (hp : PassesOwn (model X.prog X.w) X.A X.env X.xe := by exact PassesOwn.never) (hf : ∀ z, foldedSetIterable e X.env z = pure z := by intro _; rfl) : WS X (.For tg e body [] pos) ρ Φ := fun B0 B σ H0 H Dn j k => by
  obtain ⟨a, ρt, hdr, jt, he⟩ := tell B0 B σ H0 H j
  obtain ⟨a', vs, ea, h1, hkl, hres⟩ := hdr
  cases ea
  rcases h1 with h1 | ⟨od, h1⟩
  · have hH := j.same _ _ h1
    refine ⟨_, ps_lock (ps_for hp hc (pi_keys pe_star) pg_star pss_star hf), a, _, hH, trivial, fun od => ?_⟩
    refine he _ _ σ _ _ _ (jt.lockK h1 (od := od)) fun v L0 L g r => ?_
    cases (show v = .ref a from r)
    refine ⟨a, od, rfl, .inl ⟨ks.zip vs, g.sh _ _ (g.s0 _ _ upd_same), ?_⟩⟩
    have w := walk_keys (d := a) (o := od) (kvs := ks.zip vs)
    rw [List.length_zip, ← hkl, Nat.min_self] at w
    refine for_it w (fun n σ' H1 => ∃ ρ' L0, I n ρ' ∧ J X.K (upd H0 a (.frz od (.dK (ks.zip vs)))) (baseF B H0 a (.frz od (.dK (ks.zip vs)))) σ' L0 H1 ρ') ⟨ρ, _, h0, (j.lockK h1).grow g⟩ (fun n σ' H1 _ ⟨ρ', L0, _, j1⟩ => (j.hp.unlockK h1 j1.hp).2.1) ?_ ?_
    · rintro n v σ1 H1 H1' hn ⟨ρ1, L0, hI, j1⟩ ⟨rfl, kk, vv, y1, y2⟩
      obtain ⟨sq, hsq⟩ : ∃ s, ks[n]? = some s := ⟨ks[n], by simp [hn]⟩
      obtain ⟨L1, g2, rx⟩ := keyK_turn (K := X.K) hsq y1 y2 (JH.refl j1.hp.sh)
      obtain ⟨is, ρ2, hg, hb⟩ := hs n sq ρ1 hsq hI
      refine hg _ _ σ1 L1 H1' v _ (j1.grow g2) rx fun σ2 j2 _ => ?_
      refine hb _ _ σ2 L1 H1' _ j2 fun o ho => ?_
      cases o with
      | nx r => exact fun σ3 M0 M j3 => ⟨r, M0, ho, j3⟩
      | ct r => exact fun σ3 M0 M j3 => ⟨r, M0, ho, j3⟩
      | bk r => exact fun σ3 M0 M j3 => ⟨(j.hp.unlockK h1 j3.hp).2.1, k _ ho σ3 _ _ (J.unlockK j.hp h1 j3)⟩
      | rt d =>
        exact fun v' M0 M g r => by
          obtain ⟨z1, z2, z3⟩ := j.hp.unlockK h1 g
          exact ⟨z2, k _ ho v' _ _ z3 ((fz_unlockK z1).dr _ _ r)⟩
      | ro c =>
        exact fun b o M0 M g f1 f2 f3 r => by
          obtain ⟨z1, z2, z3⟩ := j.hp.unlockK h1 g
          obtain ⟨n1, n2⟩ := base_none f3
          exact ⟨z2, k _ ho b o _ _ z3 (by rw [upd_ne n1]; exact f1) (by rw [upd_ne n1]; exact f2) n2 ((fz_unlockK z1).oc r)⟩
      | rc v cs => exact ho.elim
    · rintro σ1 H1 ⟨ρ1, L0, hI, j1⟩
      exact ⟨(j.hp.unlockK h1 j1.hp).2.1, k _ (hd ρ1 hI) σ1 _ _ (J.unlockK j.hp h1 j1)⟩
  · have hH := j.same _ _ h1
    refine ⟨_, ps_for hp hc (pi_keys pe_star) pg_star pss_star hf, ?_⟩
    refine he _ _ σ _ _ _ (jt.baseS h1) fun v L0 L g r => ?_
    cases (show v = .ref a from r)
    refine ⟨a, od, rfl, .inl ⟨ks.zip vs, g.sh _ _ (g.s0 _ _ h1), ?_⟩⟩
    have w := walk_keys (d := a) (o := od) (kvs := ks.zip vs)
    rw [List.length_zip, ← hkl, Nat.min_self] at w
    refine for_it w (fun n σ' H1 => ∃ ρ' L0, I n ρ' ∧ J X.K H0 (baseF B H0 a (.frz od (.dK (ks.zip vs)))) σ' L0 H1 ρ') ⟨ρ, _, h0, (j.baseS h1).grow g⟩ (fun n σ' H1 _ ⟨ρ', L0, _, j1⟩ => j1.hp.sh _ _ (j1.hp.s0 _ _ h1)) ?_ ?_
    · rintro n v σ1 H1 H1' hn ⟨ρ1, L0, hI, j1⟩ ⟨rfl, kk, vv, y1, y2⟩
      obtain ⟨sq, hsq⟩ : ∃ s, ks[n]? = some s := ⟨ks[n], by simp [hn]⟩
      obtain ⟨L1, g2, rx⟩ := keyK_turn (K := X.K) hsq y1 y2 (JH.refl j1.hp.sh)
      obtain ⟨is, ρ2, hg, hb⟩ := hs n sq ρ1 hsq hI
      refine hg _ _ σ1 L1 H1' v _ (j1.grow g2) rx fun σ2 j2 _ => ?_
      refine hb _ _ σ2 L1 H1' _ j2 fun o ho => ?_
      cases o with
      | nx r => exact fun σ3 M0 M j3 => ⟨r, M0, ho, j3⟩
      | ct r => exact fun σ3 M0 M j3 => ⟨r, M0, ho, j3⟩
      | bk r => exact fun σ3 M0 M j3 => k _ ho σ3 M0 M (J.unbaseS j.hp h1 j3)
      | rt d => exact fun v' M0 M g r => k _ ho v' M0 M (j.hp.unbaseS h1 g) r
      | ro c => exact fun b o M0 M g f1 f2 f3 r => k _ ho b o M0 M (j.hp.unbaseS h1 g) f1 f2 (base_none f3).2 r
      | rc v cs => exact ho.elim
    · rintro σ1 H1 ⟨ρ1, L0, hI, j1⟩
      exact k _ (hd ρ1 hI) σ1 L0 H1 (J.unbaseS j.hp h1 j1)
end
section
variable {K : PySem.W.Frag} {B0 B H0 H : Hp} {σ : L2.St} {ρ : En}
/-- a dict that stands in a list of a cell is told by its place -/
theorem J.tellM (j : J K B0 B σ H0 H ρ) {s c q n : Nat} {cs : Cs} {d0 : D} {am : Addr} {mks ks : List Key} {mds es ds : List D} (hi : ρ[s]? = some (.ox cs d0)) (hc : cs[c]? = some (am, .dk mks mds)) (hk : mds[q]? = some (.lst es)) (hn : es[n]? = some (.dk ks ds)) :
    ∃ a, DR K H0 (.dk ks ds) (.ref a) ∧ J K B0 B σ H0 H (ρ.set s (.ox (cs.set c (am, .dk mks (mds.set q (.lst (es.set n (.ad a)))))) d0)) := by
  obtain ⟨ov, e1, f1, f2, f3⟩ := j.get hi
  have hm : (am, OC.dk mks mds) ∈ cs := List.mem_iff_getElem?.mpr ⟨c, hc⟩
  obtain ⟨o, h1, h2, h3, vs, rfl, hlen, rr⟩ := (f2 _ hm).ex
  obtain ⟨v, hv, rv⟩ := DRs.get rr hk
  obtain ⟨b, us, rfl, hb, hus⟩ := id rv
  obtain ⟨u, hu, ru⟩ := DRs.get hus hn
  obtain ⟨a, ws, rfl, hw, hw2, hw3⟩ := id ru
  have self : ∀ {α : Type} {l : List α} {i : Nat} {x : α}, l[i]? = some x → l.set i x = l := fun {α l i x} h => by
    refine List.ext_getElem? fun m => ?_
    by_cases hm : m = i
    · subst hm; rw [List.getElem?_set_self (List.getElem?_eq_some_iff.mp h).1, h]
    · rw [List.getElem?_set_ne (Ne.symm hm)]
  have hus2 : DRs K H0 (es.set n (.ad a)) us := by
    have := DRs.set (show DR K H0 (.ad a) (.ref a) from rfl) n hus
    rw [self hu] at this; exact this
  have rr2 : DRs K H0 (mds.set q (.lst (es.set n (.ad a)))) vs := by
    have := DRs.set (show DR K H0 (.lst (es.set n (.ad a))) (.ref b) from ⟨b, us, rfl, hb, hus2⟩) q rr
    rw [self hv] at this; exact this
  have epl : pl (cs.set c (am, .dk mks (mds.set q (.lst (es.set n (.ad a)))))) = pl cs := by
    unfold pl
    rw [List.map_set]
    exact self (by rw [List.getElem?_map, hc]; rfl)
  refine ⟨a, ru, j.setSl e1 ⟨f1, fun p hp => ?_, by show (pl _).Nodup; rw [epl]; exact f3⟩ fun b w k s' ov' nk g1 g2 w2 => ?_⟩
  · obtain ⟨i, hi2⟩ := List.mem_iff_getElem?.mp hp
    by_cases hic : i = c
    · subst hic
      rw [List.getElem?_set_self (List.getElem?_eq_some_iff.mp hc).1] at hi2
      cases hi2
      exact ⟨_, h1, h2, h3, vs, rfl, hlen, rr2⟩
    · rw [List.getElem?_set_ne (Ne.symm hic)] at hi2
      exact f2 p (List.mem_of_getElem? hi2)
  · have w' : b ∈ pl cs := by rw [← epl]; exact w
    exact nk (j.dis k s s' _ ov' _ b g1 hi g2 e1 w2 w')
end
section
variable {X : Cx} {ρ : En} {Φ : Out → Prop} {a b e o : Expr} {pos : Pos} {d : D}
theorem putK_old {κ : Type} [DecidableEq κ] : ∀ {ks : List κ} {vs : List V} {k : κ} {i : Nat} {v : V}, ks.Nodup → ks.length = vs.length → ks[i]? = some k → putK (ks.zip vs) k v = ks.zip (vs.set i v) := by
  intro ks vs k i v nd hl hi
  unfold putK
  rw [if_pos (by
    rw [List.any_eq_true]
    have h2 := (List.getElem?_eq_some_iff.mp hi).1
    exact ⟨(k, vs[i]'(by omega)), List.mem_iff_getElem?.mpr ⟨i, by rw [List.getElem?_zip_eq_some]; exact ⟨hi, List.getElem?_eq_getElem (by omega)⟩⟩, decide_eq_true rfl⟩)]
  refine List.ext_getElem? fun m => ?_
  rw [List.getElem?_map]
  cases hz : (ks.zip vs)[m]? with
  | none =>
    rw [List.getElem?_eq_none_iff] at hz
    rw [List.length_zip] at hz
    symm
    show (ks.zip (vs.set i v))[m]? = none
    rw [List.getElem?_eq_none_iff, List.length_zip, List.length_set]; exact hz
  | some p =>
    rw [List.getElem?_zip_eq_some] at hz
    obtain ⟨z1, z2⟩ := hz
    symm
    show (ks.zip (vs.set i v))[m]? = some _
    rw [List.getElem?_zip_eq_some]
    show ks[m]? = some (if p.1 = k then (p.1, v) else p).1 ∧ (vs.set i v)[m]? = some (if p.1 = k then (p.1, v) else p).2
    by_cases hm : m = i
    · subst hm
      rw [hi] at z1
      have z1' : k = p.1 := Option.some.inj z1
      rw [if_pos z1'.symm]
      exact ⟨by rw [hi, z1'], by rw [List.getElem?_set_self (List.getElem?_eq_some_iff.mp z2).1]⟩
    · have hne : ¬ p.1 = k := fun q => by
        rw [List.nodup_iff_pairwise_ne, List.pairwise_iff_getElem] at nd
        obtain ⟨l1, e1⟩ := List.getElem?_eq_some_iff.mp hi
        obtain ⟨l2, e2⟩ := List.getElem?_eq_some_iff.mp z1
        rcases Nat.lt_or_gt_of_ne hm with q1 | q1
        · exact nd m i l2 l1 q1 (by rw [e1, e2, q])
        · exact nd i m l1 l2 q1 (by rw [e1, e2, q])
      rw [if_neg hne]
      exact ⟨z1, by rw [List.getElem?_set_ne (Ne.symm hm)]; exact z2⟩
/-- d[k] = v, d a dict of a slot's cells, k there -/
theorem ws_dsetI (i m q : Nat) {p : Addr} {cs : Cs} {d0 : D} {ks : List Key} {ds : List D} {k0 : Key} {p2 : Pos} (hu : X.A.units + 64 < cLine) (hi : ρ[i]? = some (.ox cs d0)) (hm : cs[m]? = some (p, OC.dk ks ds)) (ha : ED X ρ a (.ad p)) (hb : ED X ρ b (kD k0)) (he : ED X ρ e d) (hk : ks[q]? = some k0) (hnd : ks.Nodup := by decide +kernel) (hl : ks.length < sizeLine := by decide)
    (hΦ : Φ (.nx (ρ.set i (.ox (cs.set m (p, .dk ks (ds.set q d))) d0)))) (hs : swapsWith e (some (.Subscript a b p2)) pos.line X.env = pure false := by rfl) : WS X (.Assign [.Subscript a b p2] e pos) ρ Φ := fun B0 B σ H0 H Dn j kk => by
  have nd : (pl cs).Nodup := by obtain ⟨_, _, _, _, nd⟩ := j.get hi; exact nd
  refine ⟨_, ps_dput (by omega) pe_star pe_star pe_star hs, he B0 B σ H0 H _ j fun v G0 G g1 r1 => ha B0 B σ G0 G _ (j.grow g1) fun x L0 L g2 r2 => hb B0 B σ L0 L _ ((j.grow g1).grow g2) fun y M0 M g3 r3 => ?_⟩
  cases (show x = .ref p from r2)
  rw [kD_val r3]
  have j1 := ((j.grow g1).grow g2).grow g3
  obtain ⟨o, h1, h2, h3, vs, rfl, hlen, rr⟩ := j1.cell hi (List.mem_iff_getElem?.mpr ⟨m, hm⟩)
  refine ⟨p, _, rfl, DPut.k h1 (by rw [List.length_zip, ← hlen]; omega), ?_⟩
  rw [putK_old hnd hlen hk]
  have j2 := j1.put (c' := .dk ks (ds.set q d)) (o := .dK (ks.zip (vs.set q v))) hi (List.mem_iff_getElem?.mpr ⟨m, hm⟩) ⟨_, rfl, by rw [List.length_set]; exact hlen, DRs.set (DR.mono (g2.trans g3).s0 _ _ r1) q rr⟩
  rw [putC_set nd hm] at j2
  exact kk _ hΦ _ M0 _ j2
/-- x.pop(k), x a dict that slot i owns, k there; what it gives is lost -/
theorem ws_dpopO (i : Nat) {x : Str} {ks : List Key} {ds : List D} {k0 : Key} {p1 apos pos2 : Pos} (hi : ρ[i]? = some (.ow (.dk ks ds))) (hb : ED X ρ b (kD k0)) (hk : k0 ∈ ks) (m1 : M1 X (.Name x p1) "pop" apos b pos)
    (hΦ : Φ (.nx (ρ.set i (.ow (.dk (delK ks k0) (delV ks ds k0)))))) (hs : swapsWith (.Call (.Attribute (.Name x p1) "pop" apos) [b] [] pos) none pos2.line X.env = pure false := by rfl)
    (hN : X.N[i]? = some x := by rfl) (hv : Vis X.env.scope x := by first | exact Or.inl rfl | exact Or.inr (Or.inl rfl) | exact Or.inr (Or.inr rfl)) (hd : (x == ("__debug__" : Str)) = false := by decide) (hcd : (x == ("__classdict__" : Str)) = false := by decide) :
    WS X (.Expr (.Call (.Attribute (.Name x p1) "pop" apos) [b] [] pos) pos2) ρ Φ := fun B0 B σ H0 H Dn j kk => by
  obtain ⟨ov, e0, p, o, rfl, w1, w2, w3, w4⟩ := j.get hi
  obtain ⟨vs, rfl, hlen, rr⟩ := w4
  refine ⟨_, ps_expr (pe_dpop1 (pe_var hN hv hd hcd) pe_star m1) hs, _, e0, p, rfl, .inl ⟨_, .inl w1⟩, hb B0 B σ H0 H _ j fun y G0 G g r => ?_⟩
  rw [kD_val r]
  have j1 := j.grow g
  obtain ⟨ov2, e02, p2, o2, q0, q1, q2, q3, vs2, rfl, hlen2, rr2⟩ := j1.get hi
  rw [e0] at e02; cases e02; cases q0
  obtain ⟨ws, e1, e2, e3⟩ := drop_zip (k0 := k0) hlen2 rr2
  have hv2 : (valV (ks.zip vs2) k0).isSome = true := by
    rw [← valV_any, List.any_eq_true]
    obtain ⟨n, hn⟩ := List.mem_iff_getElem?.mp hk
    have hl := (List.getElem?_eq_some_iff.mp hn).1
    exact ⟨(k0, vs2[n]'(by omega)), List.mem_iff_getElem?.mpr ⟨n, by rw [List.getElem?_zip_eq_some]; exact ⟨hn, List.getElem?_eq_getElem (by omega)⟩⟩, decide_eq_true rfl⟩
  obtain ⟨v, hv3⟩ := Option.isSome_iff_exists.mp hv2
  refine ⟨_, k0, v, q1, rfl, hv3, ?_⟩
  rw [e1]
  exact kk _ hΦ _ _ _ (j1.write (c' := .dk (delK ks k0) (delV ks ds k0)) (o := .dK ((delK ks k0).zip ws)) hi e0 ⟨ws, rfl, e2, e3⟩)
/-- xs.pop(), xs a list of a slot's cells -/
theorem ep_popI (i m : Nat) {p : Addr} {cs : Cs} {d0 : D} {ds : List D} {apos : Pos} (hi : ρ[i]? = some (.ox cs d0)) (hm : cs[m]? = some (p, OC.lst (ds ++ [d]))) (ha : ED X ρ o (.ad p))
    (hpe : ∀ {to : TE}, PE X o to → PE X (.Call (.Attribute o "pop" apos) [] [] pos) (tBM0 X.K "list" rPop to)) : EP X ρ (.Call (.Attribute o "pop" apos) [] [] pos) (fun d' ρ' => d' = d ∧ ρ' = ρ.set i (.ox (cs.set m (p, .lst ds)) d0)) := fun B0 B σ H0 H Q j kk => by
  have nd : (pl cs).Nodup := by obtain ⟨_, _, _, _, nd⟩ := j.get hi; exact nd
  refine RE.of (hpe pe_star) (ha B0 B σ H0 H _ j fun x G0 G g r => ?_)
  cases (show x = .ref p from r)
  have j1 := j.grow g
  obtain ⟨w, h1, h2, h3, vs, rfl, rr⟩ := j1.cell hi (List.mem_iff_getElem?.mpr ⟨m, hm⟩)
  obtain ⟨ws, v, rfl, r1, r2⟩ := drs_snoc_last rr
  refine ⟨Or.inl ⟨rfl, _, Or.inl (Or.inl h1)⟩, p, ws ++ [v], v, rfl, rfl, h1, by simp, ?_⟩
  rw [List.dropLast_concat]
  have j2 := j1.put (c' := .lst ds) (o := .lst ws) hi (List.mem_iff_getElem?.mpr ⟨m, hm⟩) ⟨ws, rfl, r1⟩
  rw [putC_set nd hm] at j2
  exact kk d _ v G0 _ ⟨rfl, rfl⟩ g.s0 j2 r2
/-- e op f as a value, e changes slots -/
theorem ep_cmpF {op : CmpOp} {d2 : D} {Ψ : D → En → Prop} (ha : EP X ρ a Ψ) (hb : ∀ d ρ', Ψ d ρ' → ∃ d1, ED X ρ' b d1 ∧ C2 X op d d1 d2) (hm : behindInMarks op b = false := by first | exact nomark _ | rfl) : EP X ρ (.Compare a [op] [b] pos) (fun d' ρ' => d' = d2 ∧ ∃ d, Ψ d ρ') := fun B0 B σ H0 H Q j kk => by
  have hop : OpR X (compareOp op) (fun x y H Q => ∃ r, OpR X (compareOp op) r ∧ r x y H Q) := fun pins s σ H x y v u Q I rx ry h => by
    obtain ⟨r, h1, h2⟩ := h
    exact h1 pins s σ H x y v u Q I rx ry h2
  refine RE.of (pe_cmpR hop pe_star pe_star hm) (ha B0 B σ H0 H _ j fun d ρ' x G0 G w s1 j1 r1 => ?_)
  obtain ⟨d1, hb', ho⟩ := hb d ρ' w
  obtain ⟨r, h1, h2⟩ := ho
  refine hb' B0 B σ G0 G _ j1 fun y L0 L g2 r2 => ⟨r, h1, ?_⟩
  exact h2 L0 L x y _ g2.sh (DR.mono g2.s0 _ _ r1) r2 fun v M0 M g3 r3 => kk d2 ρ' v M0 M ⟨rfl, d, w⟩ (s1.trans (g2.s0.trans g3.s0)) ((j1.grow g2).grow g3) r3
theorem tp_notT {Ψ : D → En → Prop} (h : EP X ρ e Ψ) (hb : ∀ d ρ', Ψ d ρ' → d = .bl true) (he : ∀ whole, isTrue e X.env whole = (do let v ← whole; standAt e.pos; holding [v] (truthy v)) := by intro _; rfl) : TP X ρ (.UnaryOp .Not e pos) (fun q ρ' => q = false ∧ ∃ d, Ψ d ρ') := fun B0 B σ H0 H Q j kk =>
  tp_not (tp_val h (fun d ρ' w => ⟨true, hb d ρ' w⟩) he) B0 B σ H0 H Q j fun b ρ' H0' H' w j1 => kk b ρ' H0' H' ⟨(by have := hb _ _ w; cases b <;> first | rfl | cases this), _, w⟩ j1
/-- a or b, a changes slots and is false -/
theorem tp_or1 {Ψ : En → Prop} (h : TP X ρ a (fun q ρ' => q = false ∧ Ψ ρ')) (h' : ∀ ρ', Ψ ρ' → TD X ρ' b false) : TP X ρ (.BoolOp .Or [a, b] pos) (fun q ρ' => q = false ∧ Ψ ρ') := fun B0 B σ H0 H Q j kk =>
  ⟨_, (pw_or pt_star (pw_or1 pt_star)).pt, h B0 B σ H0 H _ j fun q ρ' H0' H' w j1 => by
    obtain ⟨rfl, w⟩ := w
    exact iteF (h' ρ' w B0 B σ H0' H' _ j1 fun M0 M g => kk false ρ' M0 M ⟨rfl, w⟩ (j1.grow g))⟩
end
section
variable {X : Cx} {CX : CXT} {k : Nat} {f C : Addr} {fd : FuncData} {ps : List Str} {sp : Sp} {E : L2.St → XK} {m : Str} {pos apos : Pos} {o : Expr} {ta : TE} {t : TA}
theorem pe_methS0 {pl : Sem Bool} (he : PE X o ta) (c : Cls X.K C) (hm : Meth X.K C m f) (F : FnOk X.prog X.w X.K X.mg X.base CX k f fd ps sp) (hr : Room k X.A) (hb : Binds X.K fd ps []) (hx : ∀ σ, PassesAt CX X σ (E σ))
    (ht : eval (.Call (.Attribute o m apos) [] [] pos) X.env = (do
      let ov ← eval o X.env
      standAt apos.atName
      let (f, first) ← holding [ov] (getMethod ov m pl)
      callWith pos f first (backTo pos (starEach [] X.env)) (backToKw pos (keywordEach [] X.env))) := by rfl) :
    PE X (.Call (.Attribute o m apos) [] [] pos) (tMethS C m sp E ta tNil) := by
  refine ⟨fun pins s σ H Q I h => PySem.W.methodCall_KW (pl := pl) (thn (he.run pins s σ H _ I h) fun u s1 ⟨x, H1, I1, rx, a, dx, fs, ex, ea, l, q⟩ => ?_) ht⟩
  subst ex
  cases (show u = Value.ref a from rx)
  refine getmeth_ok I1 ea c hm l ?_
  exact PySem.W.callWith_K0 (first := [.ref a]) I1.kIn hm.kp (run_fnS (us := [.ref a]) (vs := [.ref a]) F hr hb (hx σ) I1 (.cons rfl .nil) q)
theorem eg_meth0 {ρ : En} {Θ : Err} {fds : List D} {ns : List Str} {cn : Str} {pl : Sem Bool} {R : List D → Err → Prop} (G : FnMXG X.prog X.w X.K X.mg X.base cn m k R) (hr : Room k X.A) (ho : ED X ρ o (.obj cn ns fds)) (hR : R [.obj cn ns fds] Θ)
    (hm : ns.contains m = false := by decide +kernel)
    (ht : eval (.Call (.Attribute o m apos) [] [] pos) X.env = (do
      let ov ← eval o X.env
      standAt apos.atName
      let (f, first) ← holding [ov] (getMethod ov m pl)
      callWith pos f first (backTo pos (starEach [] X.env)) (backToKw pos (keywordEach [] X.env))) := by rfl) :
    EG X ρ (.Call (.Attribute o m apos) [] [] pos) Θ := fun B0 B σ H0 H Q W tk j kk => by
  obtain ⟨C, f, fd, ps, hC, hc, hmt, F, hb⟩ := G.ex
  refine RE.of (pe_methS0 (E := WE W) pe_star hc hmt F hr hb (fun σ => L2N.passAt tk σ) ht) (ho B0 B σ H0 H _ j fun v G0 G g r => ?_)
  obtain ⟨a, C', dx, vs, rfl, hC', hA, hlen, hvs⟩ := id r
  rw [hC] at hC'; cases hC'
  exact ⟨a, dx, _, rfl, g.sh _ _ hA, zip_none hm, ⟨G0, [.obj cn ns fds], Θ, g.sh, ⟨_, _, rfl, r, rfl⟩, hR, fun v d M0 M t g3 => kk v d M0 M t (g.trans g3)⟩⟩
end
end DL
namespace DL
open PySem PySem.Spec PyProof.Rows L2
/-- what the law keeps: all states, the present one, the next number -/
structure LwM where
  sts : List (List (Int × Str × Bx))
  at_ : Nat
  last : Nat
def rwT9 (T : List (Int × Str × Bx)) : D := .dk (T.map kSx) (T.map dSx)
abbrev mKs : List Key := [Sum.inr "states", Sum.inr "at", Sum.inr "last"]
def mVs (M : LwM) : List D := [.lst (M.sts.map rwT9), .int (M.at_ : Int), .int (M.last : Int)]
def mC (am : Addr) (M : LwM) : Addr × OC := (am, .dk mKs (mVs M))
def Stp (nb : List (Str × Bx)) (T : List (Int × Str × Bx)) (k : Bool) (n : Int) (U : List (Int × Str × Bx)) : Prop := match k with
  | true => ∃ e, nbAt nb n = some e ∧ n ∉ T.map (·.1) ∧ U.Perm (T ++ [(n, e)])
  | false => ∃ e, (n, e) ∈ T ∧ U.Perm (delS T n)
structure InvM (M : LwM) (S : StS) : Prop where
  ok : StOk S
  last : M.last = S.nb.length
  at_ : M.at_ = S.dn.length
  len : M.sts.length = S.dn.length + S.un.length + 1
  cur : ∃ T, M.sts[M.at_]? = some T ∧ T.Perm S.sh
  stp : ∀ i k n T U, (S.dn ++ S.un.reverse)[i]? = some (k, n) → M.sts[i]? = some T → M.sts[i + 1]? = some U → Stp S.nb T k n U
  nds : ∀ T ∈ M.sts, (T.map (·.1)).Nodup ∧ ∀ e ∈ T, nbAt S.nb e.1 = some e.2
  sb : ∀ e ∈ S.nb, e.2.a < e.2.c ∧ e.2.b < e.2.d
def LwM.to (M : LwM) (a : Nat) : LwM := ⟨M.sts, a, M.last⟩
def StS.unmk (S : StS) (D : List (Bool × Int)) (k : Bool) (n : Int) : StS := ⟨S.nb, S.sh, S.ix, D, S.un ++ [(k, n)]⟩
def StS.remk (S : StS) (U : List (Bool × Int)) (k : Bool) (n : Int) : StS := ⟨S.nb, S.sh, S.ix, S.dn ++ [(k, n)], U⟩
theorem dels_app {T : List (Int × Str × Bx)} {n : Int} {e : Str × Bx} (h : n ∉ T.map (·.1)) : delS (T ++ [(n, e)]) n = T := by
  have h1 := delS_no h
  unfold delS at *
  rw [List.filter_append, h1, List.filter_cons_of_neg (by simp)]
  simp
theorem dels_perm {T : List (Int × Str × Bx)} (nd : (T.map (·.1)).Nodup) {n : Int} {e : Str × Bx} (h : (n, e) ∈ T) : (delS T n ++ [(n, e)]).Perm T := by
  have ndT : T.Nodup := by
    rw [List.nodup_iff_pairwise_ne, List.pairwise_map] at nd
    rw [List.nodup_iff_pairwise_ne]
    exact nd.imp fun {a b} q z => q (by rw [z])
  refine (List.perm_ext_iff_of_nodup ?_ ndT).mpr fun x => ?_
  · rw [List.nodup_append]
    refine ⟨List.Pairwise.filter _ ndT, by simp, fun a ha b hb z => ?_⟩
    rw [List.mem_singleton] at hb
    subst hb; subst z
    exact (mem_delS.mp ha).2 rfl
  · rw [List.mem_append, List.mem_singleton, mem_delS]
    constructor
    · rintro (h1 | rfl)
      · exact h1.1
      · exact h
    · intro hx
      by_cases q : x.1 = n
      · obtain ⟨m, f⟩ := x
        have q' : m = n := q
        subst q'
        exact .inr (by rw [sh_eq nd hx h])
      · exact .inl ⟨hx, q⟩
theorem keys_perm {T U : List (Int × Str × Bx)} (p : T.Perm U) {n : Int} : n ∈ T.map (·.1) ↔ n ∈ U.map (·.1) := (p.map _).mem_iff
theorem delsP {T U : List (Int × Str × Bx)} (p : T.Perm U) (n : Int) : (delS T n).Perm (delS U n) := p.filter _
/-- what undo does to what the store holds -/
theorem stp_back {nb : List (Str × Bx)} {T U V : List (Int × Str × Bx)} {k : Bool} {n : Int} (hs : Stp nb T k n U) (ndT : (T.map (·.1)).Nodup) (hT : ∀ e ∈ T, nbAt nb e.1 = some e.2) (p : U.Perm V) :
    ∃ l b, (match k with
      | true => (n, l, b) ∈ V ∧ T.Perm (delS V n)
      | false => (nbAt nb n = some (l, b) ∧ n ∉ V.map (·.1)) ∧ T.Perm (V ++ [(n, l, b)])) := by
  cases k with
  | true =>
    obtain ⟨e, h1, h2, h3⟩ := hs
    refine ⟨e.1, e.2, p.mem_iff.mp (h3.mem_iff.mpr (List.mem_append_right _ (List.mem_singleton.mpr rfl))), ?_⟩
    have := (delsP (p.symm.trans h3) n)
    rw [dels_app h2] at this
    exact this.symm
  | false =>
    obtain ⟨e, h1, h3⟩ := hs
    refine ⟨e.1, e.2, ⟨hT _ h1, fun hm => ?_⟩, ?_⟩
    · have := (keys_perm (p.symm.trans h3)).mp hm
      obtain ⟨x, hx, q⟩ := List.mem_map.mp this
      exact (mem_delS.mp hx).2 q
    · exact ((dels_perm ndT h1).symm).trans ((h3.symm.trans p).append_right _)
theorem does_sh {S : StS} {k : Bool} {n : Int} {l : Str} {b : Bx} : (S.does k n l b).sh = (if k = true then S.sh ++ [(n, l, b)] else delS S.sh n) := by cases k <;> rfl
theorem does_rest {S : StS} {k : Bool} {n : Int} {l : Str} {b : Bx} : (S.does k n l b).nb = S.nb ∧ (S.does k n l b).dn = S.dn ∧ (S.does k n l b).un = S.un := by cases k <;> exact ⟨rfl, rfl, rfl⟩
theorem InvM.undo {M : LwM} {S : StS} (inv : InvM M S) {D : List (Bool × Int)} {k : Bool} {n : Int} (hD : S.dn = D ++ [(k, n)]) : ∃ l b, StDo (S.unmk D k n) (!k) n l b ∧ InvM (M.to D.length) ((S.unmk D k n).does (!k) n l b) := by
  obtain ⟨U, hU, pU⟩ := inv.cur
  have ha : M.at_ = D.length + 1 := by rw [inv.at_, hD, List.length_append]; rfl
  rw [ha] at hU
  have hl1 : D.length < M.sts.length := by have := (List.getElem?_eq_some_iff.mp hU).1; omega
  obtain ⟨T, hT⟩ : ∃ T, M.sts[D.length]? = some T := ⟨M.sts[D.length], by simp [hl1]⟩
  have ndT := inv.nds T (List.mem_of_getElem? hT)
  have hstp := inv.stp D.length k n T U (by rw [hD, List.append_assoc, List.getElem?_append_right (Nat.le_refl _), Nat.sub_self]; rfl) hT hU
  obtain ⟨l, b, h⟩ := stp_back hstp ndT.1 ndT.2 pU
  have hdo : StDo (S.unmk D k n) (!k) n l b := by
    cases k with
    | true => exact h.1
    | false => exact h.1
  have pT : T.Perm ((S.unmk D k n).does (!k) n l b).sh := by
    rw [does_sh]
    cases k with
    | true => exact h.2
    | false => exact h.2
  have ok1 : StOk (S.unmk D k n) := inv.ok.cong rfl rfl rfl
  obtain ⟨r1, r2, r3⟩ := does_rest (S := S.unmk D k n) (k := !k) (n := n) (l := l) (b := b)
  refine ⟨l, b, hdo, ⟨ok1.does hdo, by rw [r1]; exact inv.last, by rw [r2]; rfl, ?_, ⟨T, hT, pT⟩, fun i k' n' T' U' h1 h2 h3 => ?_, by rw [r1]; exact inv.nds, by rw [r1]; exact inv.sb⟩⟩
  · rw [r2, r3]
    show M.sts.length = D.length + (S.un ++ [(k, n)]).length + 1
    have := inv.len
    rw [hD, List.length_append, List.length_singleton] at this
    rw [List.length_append, List.length_singleton]; omega
  · rw [r1]
    refine inv.stp i k' n' T' U' ?_ h2 h3
    rw [r2, r3] at h1
    have h1' : (D ++ (S.un ++ [(k, n)]).reverse)[i]? = some (k', n') := h1
    rw [List.reverse_append] at h1'
    rw [hD, List.append_assoc]
    exact h1'
theorem InvM.redo {M : LwM} {S : StS} (inv : InvM M S) {Q : List (Bool × Int)} {k : Bool} {n : Int} (hU : S.un = Q ++ [(k, n)]) : ∃ l b, StDo (S.unl Q) k n l b ∧ InvM (M.to (M.at_ + 1)) ((S.remk Q k n).does k n l b) := by
  obtain ⟨T, hT, pT⟩ := inv.cur
  have hl := inv.len
  rw [hU, List.length_append, List.length_singleton] at hl
  have ha := inv.at_
  have hl1 : M.at_ + 1 < M.sts.length := by omega
  obtain ⟨U, hU2⟩ : ∃ T, M.sts[M.at_ + 1]? = some T := ⟨M.sts[M.at_ + 1], by simp [hl1]⟩
  have ndT := inv.nds T (List.mem_of_getElem? hT)
  have hstp := inv.stp M.at_ k n T U (by rw [ha, hU, List.getElem?_append_right (Nat.le_refl _), Nat.sub_self, List.reverse_append]; rfl) hT hU2
  obtain ⟨l, b, hdo, pU⟩ : ∃ l b, StDo (S.unl Q) k n l b ∧ U.Perm ((S.remk Q k n).does k n l b).sh := by
    cases k with
    | true =>
      obtain ⟨e, h1, h2, h3⟩ := hstp
      exact ⟨e.1, e.2, ⟨h1, fun hm => h2 ((keys_perm pT).mpr hm)⟩, h3.trans (pT.append_right _)⟩
    | false =>
      obtain ⟨e, h1, h3⟩ := hstp
      exact ⟨e.1, e.2, pT.mem_iff.mp h1, h3.trans (delsP pT n)⟩
  have ok1 : StOk (S.remk Q k n) := inv.ok.cong rfl rfl rfl
  have hdo2 : StDo (S.remk Q k n) k n l b := by cases k <;> exact hdo
  obtain ⟨r1, r2, r3⟩ := does_rest (S := S.remk Q k n) (k := k) (n := n) (l := l) (b := b)
  refine ⟨l, b, hdo, ⟨ok1.does hdo2, by rw [r1]; exact inv.last, ?_, ?_, ⟨U, hU2, pU⟩, fun i k' n' T' U' h1 h2 h3 => ?_, by rw [r1]; exact inv.nds, by rw [r1]; exact inv.sb⟩⟩
  · rw [r2]
    show M.at_ + 1 = (S.dn ++ [(k, n)]).length
    rw [List.length_append, ha]; rfl
  · rw [r2, r3]
    show M.sts.length = (S.dn ++ [(k, n)]).length + Q.length + 1
    rw [List.length_append, List.length_singleton]; omega
  · rw [r1]
    refine inv.stp i k' n' T' U' ?_ h2 h3
    rw [r2, r3] at h1
    have h1' : ((S.dn ++ [(k, n)]) ++ Q.reverse)[i]? = some (k', n') := h1
    rw [List.append_assoc] at h1'
    rw [hU, List.reverse_append]
    exact h1'
theorem snoc_of {α : Type} {l : List α} (h : l ≠ []) : ∃ Q a, l = Q ++ [a] := ⟨l.dropLast, l.getLast h, (List.dropLast_concat_getLast h).symm⟩
theorem st_m4 {x : Addr} {A : StA} {S : StS} : (A.pd, OC.lst (S.dn.map dnD)) ∈ stCs x A S := by unfold stCs stH; simp
theorem st_m5 {x : Addr} {A : StA} {S : StS} : (A.pu, OC.lst (S.un.map dnD)) ∈ stCs x A S := by unfold stCs stH; simp
theorem st_g4 {x : Addr} {A : StA} {S : StS} {Q : List (Bool × Int)} {e : Bool × Int} (h : S.dn = Q ++ [e]) : (stCs x A S)[4]? = some (A.pd, OC.lst (Q.map dnD ++ [dnD e])) := by
  have : (stCs x A S)[4]? = some (A.pd, OC.lst (S.dn.map dnD)) := rfl
  rw [this, h, List.map_append]; rfl
theorem st_g5 {x : Addr} {A : StA} {S : StS} {Q : List (Bool × Int)} {e : Bool × Int} (h : S.un = Q ++ [e]) : (stCs x A S)[5]? = some (A.pu, OC.lst (Q.map dnD ++ [dnD e])) := by
  have : (stCs x A S)[5]? = some (A.pu, OC.lst (S.un.map dnD)) := rfl
  rw [this, h, List.map_append]; rfl
theorem does_nb {S : StS} {k : Bool} {n : Int} {l : Str} {b : Bx} : (S.does k n l b).nb = S.nb := does_rest.1
theorem does_dn {S : StS} {k : Bool} {n : Int} {l : Str} {b : Bx} : (S.does k n l b).dn = S.dn := does_rest.2.1
theorem does_un {S : StS} {k : Bool} {n : Int} {l : Str} {b : Bx} : (S.does k n l b).un = S.un := does_rest.2.2
theorem undo_len {S S' : StS} {Q : List (Bool × Int)} {e : Bool × Int} (h : S.dn = Q ++ [e]) (S1 : StS) (h1 : S'.dn = S1.dn) (h2 : S'.un = S1.un) (h3 : S1.dn = Q := by rfl) (h4 : S1.un = S.un ++ [e] := by rfl) : S'.dn.length + S'.un.length = S.dn.length + S.un.length := by
  rw [h1, h2, h3, h4, h, List.length_append, List.length_append]; simp only [List.length_singleton]; omega
def nxT (k : Bool) (T : List (Int × Str × Bx)) (n : Int) (l : Str) (b : Bx) : List (Int × Str × Bx) := if k = true then T ++ [(n, l, b)] else delS T n
theorem InvM.new {M : LwM} {S S1 : StS} {k : Bool} {n : Int} {l : Str} {b : Bx} {T : List (Int × Str × Bx)} (inv : InvM M S) (ok1 : StOk S1) (hsh : S1.sh = S.sh) (hdn : S1.dn = S.dn) (hnb : ∀ n, (nbAt S.nb n).isSome = true → nbAt S1.nb n = nbAt S.nb n) (sb1 : ∀ e ∈ S1.nb, e.2.a < e.2.c ∧ e.2.b < e.2.d) (hdo : StDo S1 k n l b) (hT : M.sts[M.at_]? = some T) (pT : T.Perm S.sh) :
    InvM ⟨M.sts.take (M.at_ + 1) ++ [nxT k T n l b], M.at_ + 1, S1.nb.length⟩ (S1.chg k n l b) := by
  have nb9 : ∀ {m : Int} {e : Str × Bx}, nbAt S.nb m = some e → nbAt S1.nb m = some e := fun {m e} h => by rw [hnb m (by rw [h]; rfl)]; exact h
  have hl := inv.len
  have ha := inv.at_
  have htl : (M.sts.take (M.at_ + 1)).length = M.at_ + 1 := by rw [List.length_take]; omega
  have ndT := inv.nds T (List.mem_of_getElem? hT)
  obtain ⟨r1, r2, r3⟩ := does_rest (S := (S1.unl []).logd k n) (k := k) (n := n) (l := l) (b := b)
  have e1 : (S1.chg k n l b).nb = S1.nb := r1
  have e2 : (S1.chg k n l b).dn = S.dn ++ [(k, n)] := by rw [← hdn]; exact r2
  have e3 : (S1.chg k n l b).un = [] := r3
  have stpN : Stp S1.nb T k n (nxT k T n l b) := by
    cases k with
    | true => exact ⟨(l, b), hdo.1, fun h => hdo.2 (by rw [hsh]; exact (keys_perm pT).mp h), List.Perm.refl _⟩
    | false => exact ⟨(l, b), pT.mem_iff.mpr (by rw [← hsh]; exact hdo), List.Perm.refl _⟩
  refine ⟨ok1.chg hdo, e1 ▸ rfl, ?_, ?_, ⟨nxT k T n l b, ?_, ?_⟩, fun i k' n' T' U' h1 h2 h3 => ?_, fun V hV => ?_, by rw [e1]; exact sb1⟩
  · rw [e2, List.length_append, ← ha]; rfl
  · rw [e2, e3]
    show (M.sts.take (M.at_ + 1) ++ [nxT k T n l b]).length = (S.dn ++ [(k, n)]).length + 0 + 1
    rw [List.length_append, List.length_append, htl]
    simp only [List.length_singleton]; omega
  · show (M.sts.take (M.at_ + 1) ++ [nxT k T n l b])[M.at_ + 1]? = _
    rw [List.getElem?_append_right (by omega), htl, Nat.sub_self]; rfl
  · show (nxT k T n l b).Perm (((S1.unl []).logd k n).does k n l b).sh
    rw [does_sh]
    unfold nxT
    by_cases h : k = true
    · rw [if_pos h, if_pos h]; show (T ++ _).Perm (S1.sh ++ _); rw [hsh]; exact pT.append_right _
    · rw [if_neg h, if_neg h]; show (delS T n).Perm (delS S1.sh n); rw [hsh]; exact delsP pT n
  · rw [e1]
    rw [e2, e3, List.reverse_nil, List.append_nil] at h1
    have hi := (List.getElem?_eq_some_iff.mp h1).1
    rw [List.length_append, List.length_singleton] at hi
    have h2' : (M.sts.take (M.at_ + 1) ++ [nxT k T n l b])[i]? = some T' := h2
    have h3' : (M.sts.take (M.at_ + 1) ++ [nxT k T n l b])[i + 1]? = some U' := h3
    rw [List.getElem?_append_left (by omega), List.getElem?_take_of_lt (by omega)] at h2'
    by_cases hc : i < S.dn.length
    · rw [List.getElem?_append_left hc] at h1
      rw [List.getElem?_append_left (by omega), List.getElem?_take_of_lt (by omega)] at h3'
      have := inv.stp i k' n' T' U' (by rw [List.getElem?_append_left hc]; exact h1) h2' h3'
      cases k' with
      | true =>
        obtain ⟨e, q1, q2, q3⟩ := this
        exact ⟨e, nb9 q1, q2, q3⟩
      | false => exact this
    · obtain rfl : i = S.dn.length := by omega
      rw [List.getElem?_append_right (Nat.le_refl _), Nat.sub_self] at h1
      cases h1
      rw [← ha, hT] at h2'
      cases h2'
      rw [List.getElem?_append_right (by omega), htl, ha, Nat.sub_self] at h3'
      cases h3'
      exact stpN
  · rw [e1]
    rcases List.mem_append.mp (show V ∈ M.sts.take (M.at_ + 1) ++ [nxT k T n l b] from hV) with h | h
    · have := inv.nds V (List.mem_of_mem_take h)
      exact ⟨this.1, fun e he => nb9 (this.2 e he)⟩
    · rw [List.mem_singleton.mp h]
      unfold nxT
      cases k with
      | true =>
        rw [if_pos rfl]
        have hno : n ∉ T.map (·.1) := fun h => hdo.2 (by rw [hsh]; exact (keys_perm pT).mp h)
        refine ⟨?_, fun e he => ?_⟩
        · rw [List.map_append, List.nodup_append]
          refine ⟨ndT.1, by simp, fun a ha b hb z => ?_⟩
          rw [List.map_cons, List.map_nil, List.mem_singleton] at hb
          subst z; subst hb; exact hno ha
        · rcases List.mem_append.mp he with he | he
          · exact nb9 (ndT.2 e he)
          · rw [List.mem_singleton.mp he]; exact hdo.1
      | false =>
        rw [if_neg (by decide)]
        exact ⟨ndT.1.sublist (List.Sublist.map _ List.filter_sublist), fun e he => nb9 (ndT.2 e (mem_delS.mp he).1)⟩
def m0 : LwM := ⟨[[]], 0, 0⟩
theorem inv_0 : InvM m0 st0 := ⟨st0_ok, rfl, rfl, rfl, ⟨[], rfl, List.Perm.refl _⟩, (fun i k n T U h _ _ => by cases h), (fun T hT => by rw [List.mem_singleton.mp hT]; exact ⟨List.nodup_nil, fun e h => by cases h⟩), (fun e h => by cases h)⟩
theorem InvM.bd {M : LwM} {S : StS} (inv : InvM M S) : M.at_ < M.sts.length := by have := inv.len; have := inv.at_; omega
theorem mC_st {M : LwM} : lookK mKs (mVs M) (.inr "states") = some (.lst (M.sts.map rwT9)) := rfl
theorem mC_at {M : LwM} : lookK mKs (mVs M) (.inr "at") = some (.int (M.at_ : Int)) := by
  unfold mVs mKs
  rw [lookK, if_neg (by decide +kernel), lookK, if_pos rfl]
theorem mC_la {M : LwM} : lookK mKs (mVs M) (.inr "last") = some (.int (M.last : Int)) := by
  unfold mVs mKs
  rw [lookK, if_neg (by decide +kernel), lookK, if_neg (by decide +kernel), lookK, if_pos rfl]
structure BdM (S S' : StS) : Prop where
  n : S'.nb.length ≤ S.nb.length + 1
  u : S'.dn.length + S'.un.length ≤ S.dn.length + S.un.length + 1
theorem bd_add (S : StS) (l : Str) (b : Bx) : BdM S (S.add l b) := by
  refine ⟨?_, ?_⟩
  · show (S.nb ++ [(l, b)]).length ≤ _
    rw [List.length_append]; exact Nat.le_refl _
  · show (S.dn ++ [(true, _)]).length + 0 ≤ _
    rw [List.length_append, List.length_singleton]; omega
theorem bd_rem (S : StS) (n : Int) (l : Str) (b : Bx) : BdM S (S.chg false n l b) := by
  refine ⟨Nat.le_succ _, ?_⟩
  show (S.dn ++ [(false, n)]).length + 0 ≤ _
  rw [List.length_append, List.length_singleton]; omega
theorem lay2_mem (d : Int) : (["metal", "poly"] : List Str).getD (d % 2).toNat "" ∈ layN := getD_in (by decide +kernel) (by show _ < 2; omega)
theorem InvM.add {M : LwM} {S : StS} (inv : InvM M S) {l : Str} {b : Bx} (hl : l ∈ layN) (hb : SB b) (hf : S.nb.length < 40) {T : List (Int × Str × Bx)} (hT : M.sts[M.at_]? = some T) (pT : T.Perm S.sh) :
    InvM ⟨M.sts.take (M.at_ + 1) ++ [nxT true T (S.nb.length : Int) l b], M.at_ + 1, S.nb.length + 1⟩ (S.add l b) := by
  have h := inv.new (inv.ok.numb (b := b) hl hf) (k := true) (n := (S.nb.length : Int)) (l := l) (b := b) rfl rfl (fun n hn => nbAt_app hn) (fun e he => by
    rcases List.mem_append.mp he with he | he
    · exact inv.sb e he
    · rw [List.mem_singleton.mp he]; exact ⟨hb.1, hb.2.1⟩) ⟨nbAt_new S.nb (l, b), inv.ok.new9⟩ hT pT
  have e : (S.numb l b).nb.length = S.nb.length + 1 := by show (S.nb ++ [(l, b)]).length = _; rw [List.length_append]; rfl
  rw [e] at h
  exact h
theorem tm_mem {α : Type} {l : List α} {x y : α} : x ∈ (l ++ [y]).set l.length x := List.mem_iff_getElem?.mpr ⟨l.length, by rw [List.getElem?_set_self (by simp)]⟩
theorem mC_at2 {M : LwM} {X : D} : lookK mKs ((mVs M).set 0 X) (.inr "at") = some (.int (M.at_ : Int)) := by
  unfold mVs mKs
  simp only [List.set_cons_zero]
  rw [lookK, if_neg (by decide +kernel), lookK, if_pos rfl]
theorem key_at {T : List (Int × Str × Bx)} {n : Nat} {q : Key} (h : (T.map kSx)[n]? = some q) : ∃ e, T[n]? = some e ∧ kSx e = q := by
  rw [List.getElem?_map] at h
  cases e : T[n]? with
  | none => rw [e] at h; cases h
  | some x => rw [e] at h; cases h; exact ⟨x, rfl, rfl⟩
theorem take_mapS {α β : Type} {f : α → β} {T : List α} {n : Nat} {e : α} (h : T[n]? = some e) : (T.take (n + 1)).map f = (T.take n).map f ++ [f e] := by
  rw [List.take_add_one, h, List.map_append]; rfl
theorem take_kno {T : List (Int × Str × Bx)} (nd : (T.map (·.1)).Nodup) {n : Nat} {e : Int × Str × Bx} (h : T[n]? = some e) : kSx e ∉ (T.take n).map kSx := fun hm => by
  have h1 := kSx_nd nd
  have h2 : ((T.take (n + 1)).map kSx).Nodup := by rw [List.map_take]; exact h1.sublist (List.take_sublist ..)
  rw [take_mapS h, List.nodup_append] at h2
  exact h2.2.2 _ hm (kSx e) (by simp) rfl
theorem cut_sts (L : List (List (Int × Str × Bx))) (a : Nat) : cutD (L.map rwT9) none (some ((a : Int) + 1)) = (L.take (a + 1)).map rwT9 := by
  rw [cut_take _ (by omega), List.map_take]
  congr 1
theorem bd_refl (S : StS) : BdM S S := ⟨Nat.le_succ _, Nat.le_succ _⟩
theorem to_same {M : LwM} {a : Nat} (h : M.at_ = a) : M.to a = M := by subst h; rfl
theorem or_bad {a n : Nat} {k : Int} (e : a = n) (h : ¬ (0 ≤ k ∧ k ≤ (n : Int))) : (decide (k < 0) || decide ((a : Int) < k)) = true := by
  rw [Bool.or_eq_true, decide_eq_true_iff, decide_eq_true_iff]; omega
theorem c2_eqT {X : Cx} {i : Int} : C2 X .Eq (.int i) (.int i) (.bl true) := by
  have h := c2_eqI (X := X) (i := i) (j := i)
  simpa using h
theorem shw_3 {w9 : Bx} (h : SB w9) : ShW [("metal", w9), ("poly", ⟨-9, -9, 20, 20⟩)] := fun q hq => by
  rcases List.mem_cons.mp hq with rfl | hq
  · exact ⟨show ("metal" : Str) ∈ layN by decide +kernel, h.1, h.2.1⟩
  · rw [List.mem_singleton.mp hq]; exact ⟨show ("poly" : Str) ∈ layN by decide +kernel, by decide, by decide⟩
theorem InvM.shv {M : LwM} {S : StS} (inv : InvM M S) {n : Nat} {T : List (Int × Str × Bx)} (hT : M.sts[n]? = some T) : ShV (T.map (·.2)) := fun s hs => by
  obtain ⟨e, he, rfl⟩ := List.mem_map.mp hs
  exact inv.sb _ (nb_mem ((inv.nds T (List.mem_of_getElem? hT)).2 e he))
theorem InvM.same {M : LwM} {S S' : StS} (inv : InvM M S) (ok : StOk S') (sm : SamS S S') : InvM M S' :=
  ⟨ok, by rw [sm.nb]; exact inv.last, by rw [sm.dn]; exact inv.at_, by rw [sm.dn, sm.un]; exact inv.len, by rw [sm.sh]; exact inv.cur, by rw [sm.dn, sm.un, sm.nb]; exact inv.stp, by rw [sm.nb]; exact inv.nds, by rw [sm.nb]; exact inv.sb⟩
theorem mC_show {K : PySem.W.Frag} {H : Hp} {x am : Addr} {A : StA} {S : StS} {M : LwM} {v : V} (h : ∀ p ∈ stCs x A S ++ [mC am M], DR K H p.2.d (.ref p.1)) (r : DR K H (.ad am) v) : DR K H (.dk mKs (mVs M)) v := by
  cases (show v = .ref am from r)
  exact h (mC am M) (List.mem_append_right _ (List.mem_singleton.mpr rfl))
end DL
namespace DL
open PySem PySem.Spec PyProof.Rows L2
local macro_rules | `(tactic| walk_at "side") => `(tactic| first | assumption | decide | omega | (simp only [List.length_map, List.length_append, List.length_cons, List.length_nil, sizeLine_eq] at *; omega))
local macro_rules | `(tactic| walk_at "len") => `(tactic| first | decide | (simp [sizeLine_eq]; done) | (simp [sizeLine_eq]; omega))
local macro_rules | `(tactic| walk_at "b2") => `(tactic| first
  | exact b2_add | exact b2_sub | exact b2_mod (by decide) | exact b2_fdiv ⟨by decide, by decide⟩
  | exact b2_mul (by first | exact Or.inr ⟨by decide, by decide⟩ | exact Or.inl ⟨by decide, by decide⟩ | exact Or.inr ⟨by omega, by omega⟩ | exact Or.inl ⟨by omega, by omega⟩)
  | exact b2_mod (by first | assumption | omega) | exact b2_fdiv ⟨by omega, by omega⟩ | exact b2_addS (by walk_at "side"))
local macro_rules | `(tactic| walk_at "c2") => `(tactic| first
  | exact c2_lt | exact c2_le | exact c2_gt | exact c2_ge | exact c2_eqI | exact c2_neI | exact c2_isN | exact c2_notN | exact c2_isB | exact c2_notB | exact c2_eqB | exact c2_neB | exact c2_eqS | exact c2_neS | exact c2_leS | exact c2_inInts | exact c2_eq2 (by assumption) | exact c2_eq4 (by assumption) | exact c2_ne2 (by assumption) | exact c2_ne4 (by assumption) | exact c2_eqInts (by assumption) | exact c2_neInts (by assumption) | exact c2_eqIntsL (by assumption) | exact c2_inSq (by assumption) | exact c2_notInSq (by assumption) | exact c2_eqBx (by assumption) | exact c2_neBx (by assumption))
local macro_rules | `(tactic| walk_at "ix") => `(tactic| first | exact IX.t0 | exact IX.t1 | exact IX.t2 | exact IX.t3 | exact IX.t4 | exact IX.t5 | exact IX.l0 | exact IX.l1 | exact IX.l2 | exact IX.l (at_draws (by first | decide | omega) (by first | decide | omega)) | exact ix_sel3 ⟨by omega, by omega⟩ | exact IX.l rfl)
local macro_rules | `(tactic| walk_at "bc") => `(tactic| first | exact bc_int | exact bc_lenL | exact bc_lenT | exact bc_tupL | exact bc_tupT | exact bc_min2 rfl | exact bc_max2 rfl)
local macro_rules | `(tactic| walk_at "bo") => `(tactic| first | exact bo_listL | exact bo_listT)
local macro_rules | `(tactic| walk_at "mk") => `(tactic| first | exact .mk _ | exact .mk _ _ | exact .mk _ _ _ | exact .mk _ _ _ _ | exact .mk _ _ _ _ _ | exact .mk _ _ _ _ _ _ | exact .mk _ _ _ _ _ _ _ | exact .mk _ _ _ _ _ _ _ _ | exact .mk)
local macro_rules | `(tactic| walk_at "kd") => `(tactic| first | exact kd_int | exact kd_bl | exact kd_str | (refine' kd_tup ?l ?c ?e ?z ?r; (case l => k_is); (case c => rfl); (case e => rfl); (case z => decide); (case r => walk_at "kds")))
local macro_rules | `(tactic| walk_at "kds") => `(tactic| first | exact kds_nil | (refine' kds_cons ?a ?b; (case a => walk_at "kd"); (case b => walk_at "kds")))
local macro_rules | `(tactic| walk_at "en") => `(tactic| simp only [en, enI, enL, List.map_cons, List.map_nil, List.length_cons, List.length_nil, List.cons_append, List.nil_append, List.replicate, Nat.add_one_sub_one, Nat.reduceAdd, Nat.reduceSub])
local macro_rules | `(tactic| walk_at "env") => `(tactic| simp only [upds, List.foldl_cons, List.foldl_nil, OC.d, List.set_cons_zero, List.set_cons_succ])
inductive R_is_box : List D → D → Prop where
  | mk (x0 y0 x1 y1 : Int) : R_is_box [.tup [.int x0, .int y0, .int x1, .int y1]] (.bl (decide (x0 < x1) && decide (y0 < y1)))
inductive R_inner_sides : List D → D → Prop where
  | mk (a b c d e f g h : Int) : R_inner_sides [.tup [.int a, .int b, .int c, .int d], .tup [.int e, .int f, .int g, .int h]] (boxD (max a e) (max b f) (min c g) (min d h))
inductive R_overlap : List D → D → Prop where
  | mk (a b c d e f g h : Int) : R_overlap [.tup [.int a, .int b, .int c, .int d], .tup [.int e, .int f, .int g, .int h]] (if (decide (max a e < min c g) && decide (max b f < min d h)) = true then boxD (max a e) (max b f) (min c g) (min d h) else .non)
inductive R_hull : List D → D → Prop where
  | mk (dd : D) (bs : List Bx) (x0 y0 x1 y1 : Int) (hd : SeqD dd (bs.map Bx.e)) (h : IsHull bs x0 y0 x1 y1) (hl : bs.length ≤ 1000000) : R_hull [dd] (boxD x0 y0 x1 y1)
inductive R_middle_x : List D → D → Prop where
  | mk (r : TRow) : R_middle_x [rwE r] (mX r)
inductive R_middle_y : List D → D → Prop where
  | mk (r : TRow) : R_middle_y [rwE r] (mY r)
inductive R_along_longer_side : List D → D → Prop where
  | mk (dd : D) (rs : List TRow) (h : Bx) (hd : SeqD dd (rs.map rwE)) : R_along_longer_side [dd, h.e] (.lst ((ordR h rs).map rwE))
inductive R_Tree_init_d0 : List D → List Str → List D → Prop where
  | mk (dd : D) (rs : List TRow) (hd : SeqD dd (rs.map rwE)) (hl : rs.length ≤ 8) : R_Tree_init_d0 [dd] ["_rows", "_hull", "_parts"] (trF (build 0 rs))
inductive R_Tree_init_d1 : List D → List Str → List D → Prop where
  | mk (dd : D) (rs : List TRow) (hd : SeqD dd (rs.map rwE)) (hl : rs.length ≤ 16) : R_Tree_init_d1 [dd] ["_rows", "_hull", "_parts"] (trF (build 1 rs))
inductive R_Tree_init_d2 : List D → List Str → List D → Prop where
  | mk (dd : D) (rs : List TRow) (hd : SeqD dd (rs.map rwE)) (hl : rs.length ≤ 32) : R_Tree_init_d2 [dd] ["_rows", "_hull", "_parts"] (trF (build 2 rs))
inductive R_Tree_init_d3 : List D → List Str → List D → Prop where
  | mk (dd : D) (rs : List TRow) (hd : SeqD dd (rs.map rwE)) (hl : rs.length ≤ 64) : R_Tree_init_d3 [dd] ["_rows", "_hull", "_parts"] (trF (build 3 rs))
inductive R_Tree_find_leaf : List D → OC → Prop where
  | mk (rs : List TRow) (w : Bx) (hl : rs.length ≤ 1000) : R_Tree_find_leaf [.obj "Tree" ["_rows", "_hull", "_parts"] [.tup (rs.map rwE), .non, .tup []], w.e] (.lst ((fnd w (.leaf rs)).map .int))
inductive R_Tree_find_n1 : List D → OC → Prop where
  | mk (h : Bx) (l r : Tr) (w : Bx) (hd : (Tr.node h l r).dep ≤ 1) (ok : (Tr.node h l r).ok) (hl : (Tr.node h l r).all.length ≤ 1000) : R_Tree_find_n1 [.obj "Tree" ["_rows", "_hull", "_parts"] [.tup [], h.e, .tup [trD l, trD r]], w.e] (.lst ((fnd w (.node h l r)).map .int))
inductive R_Tree_find_n2 : List D → OC → Prop where
  | mk (h : Bx) (l r : Tr) (w : Bx) (hd : (Tr.node h l r).dep ≤ 2) (ok : (Tr.node h l r).ok) (hl : (Tr.node h l r).all.length ≤ 1000) : R_Tree_find_n2 [.obj "Tree" ["_rows", "_hull", "_parts"] [.tup [], h.e, .tup [trD l, trD r]], w.e] (.lst ((fnd w (.node h l r)).map .int))
inductive R_Tree_find_n3 : List D → OC → Prop where
  | mk (h : Bx) (l r : Tr) (w : Bx) (hd : (Tr.node h l r).dep ≤ 3) (ok : (Tr.node h l r).ok) (hl : (Tr.node h l r).all.length ≤ 1000) : R_Tree_find_n3 [.obj "Tree" ["_rows", "_hull", "_parts"] [.tup [], h.e, .tup [trD l, trD r]], w.e] (.lst ((fnd w (.node h l r)).map .int))
inductive R_LayerIndex_init : Addr → List D → (Cs → Prop) → Prop where
  | mk (a : Addr) : R_LayerIndex_init a [] (fun cs => ∃ p q r, cs = ixCs a p q r ⟨[], [], []⟩)
inductive R_LayerIndex_put_in : Addr → Cs → List D → (Cs → D → Prop) → Prop where
  | mk (x p q r : Addr) (I : IxS) (n : Int) (b : Bx) (hn : hasN I.bx n = false) (hl : hasN I.lt n = false) (hbl : I.bx.length ≤ 1000) (hll : I.lt.length ≤ 1000) : R_LayerIndex_put_in x (ixCs x p q r I) [.int n, b.e] (fun cs d => cs = ixCs x p q r (I.put n b) ∧ d = .non)
inductive R_LayerIndex_take_out : Addr → Cs → List D → (Cs → D → Prop) → Prop where
  | mk (x p q r : Addr) (I : IxS) (n : Int) (hn : hasN I.bx n = true) : R_LayerIndex_take_out x (ixCs x p q r I) [.int n] (fun cs d => cs = ixCs x p q r (I.out n) ∧ d = .non)
inductive R_LayerIndex_find : Addr → Cs → List D → (Cs → D → Prop) → Prop where
  | mk (x p q r : Addr) (I : IxS) (fb : Int → Bx) (ok : IxOk fb I) (w : Bx) (hb : I.bx.length ≤ 41) (hi : I.it.length ≤ 41) (hl : I.lt.length ≤ 41) : R_LayerIndex_find x (ixCs x p q r I) [w.e] (fun cs d => ∃ p2 q2 r2, cs = ixCs x p2 q2 r2 I.fresh ∧ d = .lst ((srtI ((I.bx.filter fun e => hitB e.2 w).map (·.1))).map .int))
inductive R_LayerIndex_refresh : Addr → Cs → List D → (Cs → D → Prop) → Prop where
  | mk (x p q r : Addr) (I : IxS) (hb : I.bx.length ≤ 60) (nd : (I.bx.map (·.1)).Nodup) : R_LayerIndex_refresh x (ixCs x p q r I) [] (fun cs d => ∃ p2 q2 r2, cs = ixCs x p2 q2 r2 I.fresh ∧ d = .non)
inductive R_Store_init : Addr → List D → (Cs → Prop) → Prop where
  | mk (a : Addr) : R_Store_init a [] (fun cs => ∃ A, cs = stCs a A st0)
inductive R_Store_len : List D → D → Prop where
  | mk (S : StS) : R_Store_len [stO S] (.int (S.sh.length : Int))
inductive R_Store_add : Addr → Cs → List D → (Cs → D → Prop) → Prop where
  | mk (x : Addr) (A : StA) (S : StS) (ok : StOk S) (l : Str) (b : Bx) (hl : l ∈ layN) (hf : S.nb.length < 40) (hd : S.dn.length ≤ 1000) : R_Store_add x (stCs x A S) [.str l, b.e] (fun cs d => ∃ A', cs = stCs x A' (S.add l b) ∧ d = .int (S.nb.length : Int))
inductive R_Store_remove : Addr → Cs → List D → (Cs → D → Prop) → Prop where
  | mk (x : Addr) (A : StA) (S : StS) (ok : StOk S) (n : Int) (l : Str) (b : Bx) (hn : (n, l, b) ∈ S.sh) (hd : S.dn.length ≤ 1000) : R_Store_remove x (stCs x A S) [.int n] (fun cs d => ∃ A', cs = stCs x A' (S.chg false n l b) ∧ d = .non)
inductive R_Store_shape : List D → D → Prop where
  | mk (S : StS) (ok : StOk S) (n : Int) (e : Str × Bx) (hn : (n, e) ∈ S.sh) : R_Store_shape [stO S, .int n] (shE e)
inductive R_Store_find : Addr → Cs → List D → (Cs → D → Prop) → Prop where
  | mk (x : Addr) (A : StA) (S : StS) (ok : StOk S) (l : Str) (w : Bx) (hl : l ∈ layN) : R_Store_find x (stCs x A S) [.str l, w.e] (fun cs d => ∃ A', cs = stCs x A' (S.at l (S.ix l).fresh) ∧ d = .lst ((fndSx S.sh l w).map .int))
inductive R_Store_find_square : Addr → Cs → List D → (Cs → D → Prop) → Prop where
  | mk (x : Addr) (A : StA) (S : StS) (ok : StOk S) (l : Str) (px py : Int) (hl : l ∈ layN) : R_Store_find_square x (stCs x A S) [.str l, .int px, .int py] (fun cs d => ∃ A', cs = stCs x A' (S.at l (S.ix l).fresh) ∧ d = .lst ((fndSx S.sh l ⟨px, py, px + 1, py + 1⟩).map .int))
inductive R_Store_numbers : List D → OC → Prop where
  | mk (S : StS) (h : S.sh.length ≤ 60) : R_Store_numbers [stO S] (.lst ((srtI (S.sh.map (·.1))).map .int))
inductive R_Store_mark : List D → D → Prop where
  | mk (S : StS) : R_Store_mark [stO S] (.int (S.dn.length : Int))
inductive R_Store_undo : Addr → Cs → List D → (Cs → D → Prop) → Prop where
  | mk (x : Addr) (A : StA) (S : StS) (M : LwM) (inv : InvM M S) (h : S.dn ≠ []) (hl : S.dn.length + S.un.length ≤ 1000) : R_Store_undo x (stCs x A S) [] (fun cs d => ∃ A' S', InvM (M.to (S.dn.length - 1)) S' ∧ S'.nb = S.nb ∧ S'.dn.length + S'.un.length = S.dn.length + S.un.length ∧ cs = stCs x A' S' ∧ d = .non)
inductive R_Store_redo : Addr → Cs → List D → (Cs → D → Prop) → Prop where
  | mk (x : Addr) (A : StA) (S : StS) (M : LwM) (inv : InvM M S) (h : S.un ≠ []) (hl : S.dn.length + S.un.length ≤ 1000) : R_Store_redo x (stCs x A S) [] (fun cs d => ∃ A' S', InvM (M.to (M.at_ + 1)) S' ∧ S'.nb = S.nb ∧ S'.dn.length + S'.un.length = S.dn.length + S.un.length ∧ cs = stCs x A' S' ∧ d = .non)
inductive R_Store_back_to : Addr → Cs → List D → (Cs → D → Prop) → Prop where
  | mk (x : Addr) (A : StA) (S : StS) (M : LwM) (inv : InvM M S) (m : Nat) (h : m ≤ S.dn.length) (hl : S.dn.length + S.un.length ≤ 1000) : R_Store_back_to x (stCs x A S) [.int (m : Int)] (fun cs d => ∃ A' S', InvM (M.to m) S' ∧ S'.nb = S.nb ∧ S'.dn.length + S'.un.length = S.dn.length + S.un.length ∧ cs = stCs x A' S' ∧ d = .non)
inductive R_Store_change : Addr → Cs → List D → (Cs → D → Prop) → Prop where
  | mk (x : Addr) (A : StA) (S : StS) (ok : StOk S) (k : Bool) (n : Int) (l : Str) (b : Bx) (hd : S.dn.length ≤ 1000) (h : StDo S k n l b) : R_Store_change x (stCs x A S) [.str (dnS k), .int n] (fun cs d => ∃ A', cs = stCs x A' (S.chg k n l b) ∧ d = .non)
inductive R_Store_carry_out : Addr → Cs → List D → (Cs → D → Prop) → Prop where
  | mk (x : Addr) (A : StA) (S : StS) (ok : StOk S) (k : Bool) (n : Int) (l : Str) (b : Bx) (hd : S.dn.length ≤ 1000) (h : StDo S k n l b) : R_Store_carry_out x (stCs x A S) [.str (dnS k), .int n] (fun cs d => ∃ A', cs = stCs x A' ((S.logd k n).does k n l b) ∧ d = .non)
inductive R_Store_put_in : Addr → Cs → List D → (Cs → D → Prop) → Prop where
  | mk (x : Addr) (A : StA) (S : StS) (ok : StOk S) (n : Int) (l : Str) (b : Bx) (hn : nbAt S.nb n = some (l, b)) (hs : n ∉ S.sh.map (·.1)) : R_Store_put_in x (stCs x A S) [.int n] (fun cs d => ∃ A', cs = stCs x A' (S.putIn n l b) ∧ d = .non)
inductive R_Store_take_out : Addr → Cs → List D → (Cs → D → Prop) → Prop where
  | mk (x : Addr) (A : StA) (S : StS) (ok : StOk S) (n : Int) (l : Str) (b : Bx) (hn : (n, l, b) ∈ S.sh) : R_Store_take_out x (stCs x A S) [.int n] (fun cs d => ∃ A', cs = stCs x A' (S.takeOut n l) ∧ d = .non)
inductive R_law_cell : List D → D → Prop where
  | mk (ns : List Int) (k : Int) (h : 0 ≤ k) : R_law_cell [.lst (ns.map .int), .int k] (.int (cellAt ns k))
inductive R_law_draws : List D → D → Prop where
  | mk (c n : Int) (h : 0 ≤ n) (h2 : n ≤ 1000) : R_law_draws [.int c, .int n] (.lst ((draws c n).map .int))
inductive R_law_is_int : List D → D → Prop where
  | mk (i : Int) : R_law_is_int [.int i] (.bl true)
inductive R_law_ints_list : List D → D → Prop where
  | mk (ns : List Int) (h : ns.length ≤ 1000) : R_law_ints_list [.lst (ns.map .int), .str "list"] (.bl true)
inductive R_law_is_list : List D → D → Prop where
  | mk (ns : List Int) (h : ns.length ≤ 1000) : R_law_is_list [.lst (ns.map .int), .lst (ns.map .int)] (.bl true)
inductive R_law_is_number : List D → D → Prop where
  | mk (i j : Int) : R_law_is_number [.int i, .int j] (.bl (decide (i = j)))
inductive R_law_box_of : List D → D → Prop where
  | mk (a b : Int) : R_law_box_of [.int a, .int b] (boxD (bx0 a) (by0 a) (bx1 a) (by1 a b))
inductive R_law_in : List D → D → Prop where
  | mk (x0 y0 x1 y1 x y : Int) : R_law_in [.tup [.int x0, .int y0, .int x1, .int y1], .int x, .int y] (.bl ((decide (x0 ≤ x) && decide (x < x1)) && (decide (y0 ≤ y) && decide (y < y1))))
inductive R_law_like_int : List D → D → Prop where
  | mk (i : Int) : R_law_like_int [.int i, .int i] (.bl true)
inductive R_law_like_str : List D → D → Prop where
  | mk (z : Str) : R_law_like_str [.str z, .str z] (.bl true)
inductive R_law_like_m1 : List D → D → Prop where
  | mk (ds : List D) (h : ds.length ≤ 1000) (hl : ∀ d ∈ ds, MD 0 d) : R_law_like_m1 [.tup ds, .tup ds] (.bl true)
inductive R_law_like_m2 : List D → D → Prop where
  | mk (ds : List D) (h : ds.length ≤ 1000) (hl : ∀ d ∈ ds, MD 1 d) : R_law_like_m2 [.tup ds, .tup ds] (.bl true)
inductive R_law_like_m3 : List D → D → Prop where
  | mk (ds : List D) (h : ds.length ≤ 1000) (hl : ∀ d ∈ ds, MD 2 d) : R_law_like_m3 [.tup ds, .tup ds] (.bl true)
inductive R_law_like_m4 : List D → D → Prop where
  | mk (ds : List D) (h : ds.length ≤ 1000) (hl : ∀ d ∈ ds, MD 3 d) : R_law_like_m4 [.tup ds, .tup ds] (.bl true)
inductive R_law_qmeets : List D → D → Prop where
  | mk (b w : Bx) : R_law_qmeets [b.e, w.e] (.bl (mtB b w))
inductive R_law_qstore_is : Addr → Cs → List D → (Cs → D → Prop) → Prop where
  | mk (x : Addr) (A : StA) (S : StS) (ok : StOk S) (T : List (Int × Str × Bx)) (p : T.Perm S.sh) (vT : ShV (T.map (·.2))) (W : List Shp) (hW : ShW W) (hWl : W.length ≤ 100) : R_law_qstore_is x (stCs x A S) [.dk (T.map kSx) (T.map dSx), .lst (W.map shE)] (fun cs d => ∃ A' S', StOk S' ∧ SamS S S' ∧ cs = stCs x A' S' ∧ d = .bl true)
inductive R_law_qtry_us : List D → D → Prop where
  | u0 (S : StS) (h : S.dn = []) : R_law_qtry_us [stO S, .int 0, .int 0] (.int 1)
  | u1 (S : StS) (h : S.un = []) : R_law_qtry_us [stO S, .int 1, .int 0] (.int 2)
  | u2 (S : StS) (m : Int) (h : ¬ (0 ≤ m ∧ m ≤ (S.dn.length : Int))) (sm : Sm m) : R_law_qtry_us [stO S, .int 2, .int m] (.int 3)
inductive R_law_qtry_ul : Addr → Cs → List D → (Cs → D → Prop) → Prop where
  | u0 (x : Addr) (A : StA) (S : StS) (M : LwM) (inv : InvM M S) (h : S.dn ≠ []) (hl : S.dn.length + S.un.length ≤ 1000) : R_law_qtry_ul x (stCs x A S) [.int 0, .int 0] (fun cs d => ∃ A' S', InvM (M.to (S.dn.length - 1)) S' ∧ S'.nb = S.nb ∧ S'.dn.length + S'.un.length = S.dn.length + S.un.length ∧ cs = stCs x A' S' ∧ d = .int 0)
  | u1 (x : Addr) (A : StA) (S : StS) (M : LwM) (inv : InvM M S) (h : S.un ≠ []) (hl : S.dn.length + S.un.length ≤ 1000) : R_law_qtry_ul x (stCs x A S) [.int 1, .int 0] (fun cs d => ∃ A' S', InvM (M.to (M.at_ + 1)) S' ∧ S'.nb = S.nb ∧ S'.dn.length + S'.un.length = S.dn.length + S.un.length ∧ cs = stCs x A' S' ∧ d = .int 0)
  | u2 (x : Addr) (A : StA) (S : StS) (M : LwM) (inv : InvM M S) (m : Nat) (h : m ≤ S.dn.length) (hl : S.dn.length + S.un.length ≤ 1000) : R_law_qtry_ul x (stCs x A S) [.int 2, .int (m : Int)] (fun cs d => ∃ A' S', InvM (M.to m) S' ∧ S'.nb = S.nb ∧ S'.dn.length + S'.un.length = S.dn.length + S.un.length ∧ cs = stCs x A' S' ∧ d = .int 0)
inductive R_law_change : Addr → Cs → List D → (Cs → D → Prop) → Prop where
  | mk (x am : Addr) (A : StA) (S : StS) (M : LwM) (inv : InvM M S) (c : Int) (hn : S.nb.length < 40) (hl : S.dn.length + S.un.length ≤ 40) : R_law_change x (stCs x A S ++ [mC am M]) [.ad am, .lst ((draws c 8).map .int)] (fun cs d => ∃ A' S' M', InvM M' S' ∧ BdM S S' ∧ cs = stCs x A' S' ++ [mC am M'] ∧ d = .bl true)
inductive R_law_deed : Addr → Cs → List D → (Cs → D → Prop) → Prop where
  | mk (x am : Addr) (A : StA) (S : StS) (M : LwM) (inv : InvM M S) (c : Int) (hn : S.nb.length < 40) (hl : S.dn.length + S.un.length ≤ 40) : R_law_deed x (stCs x A S ++ [mC am M]) [.ad am, .lst ((draws c 8).map .int)] (fun cs d => ∃ A' S' M', InvM M' S' ∧ BdM S S' ∧ cs = stCs x A' S' ++ [mC am M'] ∧ d = .bl true)
abbrev R_law := RLaw
inductive RX_Store_undo : List D → Err → Prop where
  | mk (S : StS) (h : S.dn = []) : RX_Store_undo [stO S] (errN "NothingToUndo")
inductive RX_Store_redo : List D → Err → Prop where
  | mk (S : StS) (h : S.un = []) : RX_Store_redo [stO S] (errN "NothingToRedo")
inductive RX_Store_back_to : List D → Err → Prop where
  | mk (S : StS) (m : Int) (h : ¬ (0 ≤ m ∧ m ≤ (S.dn.length : Int))) (sm : Sm m) : RX_Store_back_to [stO S, .int m] (errN "UnknownMark")
def top (i : Nat) : Stmt := PySem.Challenge.pw_reticle_k34_whole_undo_and_redo.main.body.getD i (.Pass ⟨0, 0, 0, 0⟩)
structure Bt (mg : Str → Option Value) : Prop where
  «all» : mg "all" = none
  «bool» : mg "bool" = none
  «int» : mg "int" = none
  «isinstance» : mg "isinstance" = none
  «len» : mg "len" = none
  «list» : mg "list" = none
  «max» : mg "max" = none
  «min» : mg "min" = none
  «range» : mg "range" = none
  «sorted» : mg "sorted" = none
  «str» : mg "str" = none
  «tuple» : mg "tuple" = none
structure Kt (K : PySem.W.Frag) (mg : Str → Option Value) : Prop where
  «ADDED» : Cst K mg "ADDED" (.str "added")
  «LAYERS» : Cst K mg "LAYERS" (.tup [.str "well", .str "active", .str "poly", .str "contact", .str "metal", .str "via", .str "top"])
  «LEAF_SIZE» : Cst K mg "LEAF_SIZE" (.int 8)
  «REMOVED» : Cst K mg "REMOVED" (.str "removed")
  «SLACK» : Cst K mg "SLACK" (.int 8)
structure Lt (K : PySem.W.Frag) (mg : Str → Option Value) : Prop where
  «Tree» : Kl K mg "Tree" ["_rows", "_hull", "_parts"]
  «LayerIndex» : Kl K mg "LayerIndex" ["_boxes", "_in_tree", "_late", "_tree"]
  «Store» : Kl K mg "Store" ["_numbered", "_shapes", "_indexes", "_done", "_undone"]
structure Xt (K : PySem.W.Frag) (mg : Str → Option Value) : Prop where
  «NothingToUndo» : Xc K mg "NothingToUndo"
  «NothingToRedo» : Xc K mg "NothingToRedo"
  «UnknownMark» : Xc K mg "UnknownMark"
  «mU» : Xm K mg "NothingToUndo" "NothingToUndo"
  «mR» : Xm K mg "NothingToRedo" "NothingToRedo"
  «mM» : Xm K mg "UnknownMark" "UnknownMark"
  «sUR» : Xs K mg "NothingToUndo" "NothingToRedo"
  «sUM» : Xs K mg "NothingToUndo" "UnknownMark"
  «sUS» : Xs K mg "NothingToUndo" "UnknownShape"
  «sRU» : Xs K mg "NothingToRedo" "NothingToUndo"
  «sRM» : Xs K mg "NothingToRedo" "UnknownMark"
  «sRS» : Xs K mg "NothingToRedo" "UnknownShape"
  «sMU» : Xs K mg "UnknownMark" "NothingToUndo"
  «sMR» : Xs K mg "UnknownMark" "NothingToRedo"
  «sMS» : Xs K mg "UnknownMark" "UnknownShape"
section
variable {P : Program} {w : World} {K : PySem.W.Frag} {mg : Str → Option Value} {base : Heap}
abbrev s_is_box : Stmt := top 2
theorem sc_is_box : FnScope ["box", "x0", "y0", "x1", "y1"] ["box"] (defScope s_is_box) := ⟨rfl, rfl, rfl, by decide +kernel, rfl, by decide +kernel, by decide +kernel⟩
theorem ok_is_box {f : Addr} {fd : FuncData} (F : Fun K "is_box" "is_box" s_is_box f fd) (B : Bt mg) (KC : Kt K mg) (KL : Lt K mg) (XF : Xt K mg)  :
    FnOk P w K mg base CX0 1 f fd ["box"] (spR K R_is_box) := by
  refine fn_ok (k := 0) F sc_is_box (fun ds d h => by cases h <;> rfl) fun ds d hR cdv A outer s H E hr => ?_
  have nd := sc_is_box.nd
  have hu := hr.units
  cases hR
  walk_at "en"
  refine ws_cons (ws_unpack (ed_var 0 rfl) (dg_tup rfl (dgs_cons (dg_name 1 nd) (dgs_cons (dg_name 2 nd) (dgs_cons (dg_name 3 nd) (dgs_cons (dg_name 4 nd) dgs_nil))))) ?_)
  walk_at "env"
  refine ws_cons (ws_ret (ED.eq (ed_and (ed_cmp (ed_var 1 rfl) (ed_var 3 rfl) (by walk_at "c2")) (fun hb1 => (ed_one (ed_cmp (ed_var 2 rfl) (ed_var 4 rfl) (by walk_at "c2"))))) ?_) (Or.inl rfl))
  rfl
abbrev s_inner_sides : Stmt := top 3
theorem sc_inner_sides : FnScope ["first", "second"] ["first", "second"] (defScope s_inner_sides) := ⟨rfl, rfl, rfl, by decide +kernel, rfl, by decide +kernel, by decide +kernel⟩
theorem ok_inner_sides {f : Addr} {fd : FuncData} (F : Fun K "inner_sides" "inner_sides" s_inner_sides f fd) (B : Bt mg) (KC : Kt K mg) (KL : Lt K mg) (XF : Xt K mg)  :
    FnOk P w K mg base CX0 1 f fd ["first", "second"] (spR K R_inner_sides) := by
  refine fn_ok (k := 0) F sc_inner_sides (fun ds d h => by cases h <;> rfl) fun ds d hR cdv A outer s H E hr => ?_
  have nd := sc_inner_sides.nd
  have hu := hr.units
  cases hR
  walk_at "en"
  refine ws_cons (ws_ret (ED.eq (ed_tup (ad_cons (ed_callB (id := "max") (by rfl) B.«max» bb_max (ad_cons (ed_ix (ed_var 0 rfl) ed_int (by walk_at "ix")) (ad_cons (ed_ix (ed_var 1 rfl) ed_int (by walk_at "ix")) ad_nil)) (by walk_at "bc")) (ad_cons (ed_callB (id := "max") (by rfl) B.«max» bb_max (ad_cons (ed_ix (ed_var 0 rfl) ed_int (by walk_at "ix")) (ad_cons (ed_ix (ed_var 1 rfl) ed_int (by walk_at "ix")) ad_nil)) (by walk_at "bc")) (ad_cons (ed_callB (id := "min") (by rfl) B.«min» bb_min (ad_cons (ed_ix (ed_var 0 rfl) ed_int (by walk_at "ix")) (ad_cons (ed_ix (ed_var 1 rfl) ed_int (by walk_at "ix")) ad_nil)) (by walk_at "bc")) (ad_cons (ed_callB (id := "min") (by rfl) B.«min» bb_min (ad_cons (ed_ix (ed_var 0 rfl) ed_int (by walk_at "ix")) (ad_cons (ed_ix (ed_var 1 rfl) ed_int (by walk_at "ix")) ad_nil)) (by walk_at "bc")) ad_nil))))) ?_) (Or.inl rfl))
  rfl
abbrev s_overlap : Stmt := top 4
theorem sc_overlap : FnScope ["first", "second", "shared"] ["first", "second"] (defScope s_overlap) := ⟨rfl, rfl, rfl, by decide +kernel, rfl, by decide +kernel, by decide +kernel⟩
theorem ok_overlap {f : Addr} {fd : FuncData} (F : Fun K "overlap" "overlap" s_overlap f fd) (B : Bt mg) (KC : Kt K mg) (KL : Lt K mg) (XF : Xt K mg) (G_inner_sides : Fn P w K mg base "inner_sides" 1 R_inner_sides) (G_is_box : Fn P w K mg base "is_box" 1 R_is_box) :
    FnOk P w K mg base CX0 2 f fd ["first", "second"] (spR K R_overlap) := by
  refine fn_ok (k := 1) F sc_overlap (fun ds d h => by cases h <;> rfl) fun ds d hR cdv A outer s H E hr => ?_
  have nd := sc_overlap.nd
  have hu := hr.units
  cases hR
  walk_at "en"
  refine ws_cons (ws_set 2 nd (ed_call G_inner_sides (hr.mono (by decide)) (by rfl) (ad_cons (ed_var 0 rfl) (ad_cons (ed_var 1 rfl) ad_nil)) (by walk_at "mk")) ?_)
  walk_at "env"
  refine ws_cons (ws_ret (ED.eq (ed_ifv (td_truth (ed_call G_is_box (hr.mono (by decide)) (by rfl) (ad_cons (ed_var 2 rfl) ad_nil) (by walk_at "mk")) rfl) (fun hc1 => (ed_var 2 rfl)) (fun hc1 => ed_non)) ?_) (Or.inl rfl))
  rfl
abbrev s_hull : Stmt := top 5
theorem sc_hull : FnScope ["boxes", "box"] ["boxes"] (defScope s_hull) := ⟨rfl, rfl, rfl, by decide +kernel, rfl, by decide +kernel, by decide +kernel⟩
theorem ok_hull {f : Addr} {fd : FuncData} (F : Fun K "hull" "hull" s_hull f fd) (B : Bt mg) (KC : Kt K mg) (KL : Lt K mg) (XF : Xt K mg)  :
    FnOk P w K mg base CX0 1 f fd ["boxes"] (spR K R_hull) := by
  refine fn_ok (k := 0) F sc_hull (fun ds d h => by cases h <;> rfl) fun ds d hR cdv A outer s H E hr => ?_
  have nd := sc_hull.nd
  have hu := hr.units
  rcases hR with ⟨dd, bs, X0, Y0, X1, Y1, hsd, hh, hl⟩
  walk_at "en"
  refine ws_cons (ws_ret (ED.eq (ed_tup (ad_cons (ed_callB (id := "min") (by rfl) B.«min» bb_min (ad_cons (ed_lst (eo_map2 [("box", 1)] (bs) (Bx.e) (Bx.a) (D.int) rfl nd (blkOk_by (N := ["boxes", "box"]) (sc := defScope s_hull) (by decide +kernel)) (id_seq hsd (ed_var 0 rfl)) (rfl) (fun x hxm => ⟨_, by rfl, fun _ _ _ _ _ => ⟨(dg_name 1 nd), tds_nil, (ed_ix (ed_var 1 rfl) ed_int (by walk_at "ix"))⟩⟩) (by rw [sizeLine_eq]; omega))) ad_nil) (bc_minL rfl hh.m0 hh.l0)) (ad_cons (ed_callB (id := "min") (by rfl) B.«min» bb_min (ad_cons (ed_lst (eo_map2 [("box", 1)] (bs) (Bx.e) (Bx.b) (D.int) rfl nd (blkOk_by (N := ["boxes", "box"]) (sc := defScope s_hull) (by decide +kernel)) (id_seq hsd (ed_var 0 rfl)) (rfl) (fun x hxm => ⟨_, by rfl, fun _ _ _ _ _ => ⟨(dg_name 1 nd), tds_nil, (ed_ix (ed_var 1 rfl) ed_int (by walk_at "ix"))⟩⟩) (by rw [sizeLine_eq]; omega))) ad_nil) (bc_minL rfl hh.m1 hh.l1)) (ad_cons (ed_callB (id := "max") (by rfl) B.«max» bb_max (ad_cons (ed_lst (eo_map2 [("box", 1)] (bs) (Bx.e) (Bx.c) (D.int) rfl nd (blkOk_by (N := ["boxes", "box"]) (sc := defScope s_hull) (by decide +kernel)) (id_seq hsd (ed_var 0 rfl)) (rfl) (fun x hxm => ⟨_, by rfl, fun _ _ _ _ _ => ⟨(dg_name 1 nd), tds_nil, (ed_ix (ed_var 1 rfl) ed_int (by walk_at "ix"))⟩⟩) (by rw [sizeLine_eq]; omega))) ad_nil) (bc_maxL rfl hh.m2 hh.l2)) (ad_cons (ed_callB (id := "max") (by rfl) B.«max» bb_max (ad_cons (ed_lst (eo_map2 [("box", 1)] (bs) (Bx.e) (Bx.d) (D.int) rfl nd (blkOk_by (N := ["boxes", "box"]) (sc := defScope s_hull) (by decide +kernel)) (id_seq hsd (ed_var 0 rfl)) (rfl) (fun x hxm => ⟨_, by rfl, fun _ _ _ _ _ => ⟨(dg_name 1 nd), tds_nil, (ed_ix (ed_var 1 rfl) ed_int (by walk_at "ix"))⟩⟩) (by rw [sizeLine_eq]; omega))) ad_nil) (bc_maxL rfl hh.m3 hh.l3)) ad_nil))))) ?_) (Or.inl rfl))
  rfl
abbrev s_middle_x : Stmt := top 15
theorem sc_middle_x : FnScope ["row"] ["row"] (defScope s_middle_x) := ⟨rfl, rfl, rfl, by decide +kernel, rfl, by decide +kernel, by decide +kernel⟩
theorem ok_middle_x {f : Addr} {fd : FuncData} (F : Fun K "middle_x" "middle_x" s_middle_x f fd) (B : Bt mg) (KC : Kt K mg) (KL : Lt K mg) (XF : Xt K mg)  :
    FnOk P w K mg base CX0 1 f fd ["row"] (spR K R_middle_x) := by
  refine fn_ok (k := 0) F sc_middle_x (fun ds d h => by cases h <;> rfl) fun ds d hR cdv A outer s H E hr => ?_
  have nd := sc_middle_x.nd
  have hu := hr.units
  rcases hR with ⟨r⟩
  unfold rwE Bx.e
  walk_at "en"
  refine ws_cons (ws_ret (ED.eq (ed_bin (ed_ix (ed_ix (ed_var 0 rfl) ed_int (by walk_at "ix")) ed_int (by walk_at "ix")) (ed_ix (ed_ix (ed_var 0 rfl) ed_int (by walk_at "ix")) ed_int (by walk_at "ix")) (by walk_at "b2")) ?_) (Or.inl rfl))
  rfl
abbrev s_middle_y : Stmt := top 16
theorem sc_middle_y : FnScope ["row"] ["row"] (defScope s_middle_y) := ⟨rfl, rfl, rfl, by decide +kernel, rfl, by decide +kernel, by decide +kernel⟩
theorem ok_middle_y {f : Addr} {fd : FuncData} (F : Fun K "middle_y" "middle_y" s_middle_y f fd) (B : Bt mg) (KC : Kt K mg) (KL : Lt K mg) (XF : Xt K mg)  :
    FnOk P w K mg base CX0 1 f fd ["row"] (spR K R_middle_y) := by
  refine fn_ok (k := 0) F sc_middle_y (fun ds d h => by cases h <;> rfl) fun ds d hR cdv A outer s H E hr => ?_
  have nd := sc_middle_y.nd
  have hu := hr.units
  rcases hR with ⟨r⟩
  unfold rwE Bx.e
  walk_at "en"
  refine ws_cons (ws_ret (ED.eq (ed_bin (ed_ix (ed_ix (ed_var 0 rfl) ed_int (by walk_at "ix")) ed_int (by walk_at "ix")) (ed_ix (ed_ix (ed_var 0 rfl) ed_int (by walk_at "ix")) ed_int (by walk_at "ix")) (by walk_at "b2")) ?_) (Or.inl rfl))
  rfl
abbrev s_along_longer_side : Stmt := top 17
theorem sc_along_longer_side : FnScope ["rows", "frame", "x0", "y0", "x1", "y1"] ["rows", "frame"] (defScope s_along_longer_side) := ⟨rfl, rfl, rfl, by decide +kernel, rfl, by decide +kernel, by decide +kernel⟩
theorem ok_along_longer_side {f : Addr} {fd : FuncData} (F : Fun K "along_longer_side" "along_longer_side" s_along_longer_side f fd) (B : Bt mg) (KC : Kt K mg) (KL : Lt K mg) (XF : Xt K mg) (G_middle_x : Fn P w K mg base "middle_x" 1 R_middle_x) (G_middle_y : Fn P w K mg base "middle_y" 1 R_middle_y) :
    FnOk P w K mg base CX0 4 f fd ["rows", "frame"] (spR K R_along_longer_side) := by
  refine fn_ok (k := 3) F sc_along_longer_side (fun ds d h => by cases h <;> rfl) fun ds d hR cdv A outer s H E hr => ?_
  have nd := sc_along_longer_side.nd
  have hu := hr.units
  rcases hR with ⟨dd, rs, h, hsd⟩
  walk_at "en"
  refine ws_cons (ws_unpack (ed_var 1 rfl) (dg_tup rfl (dgs_cons (dg_name 2 nd) (dgs_cons (dg_name 3 nd) (dgs_cons (dg_name 4 nd) (dgs_cons (dg_name 5 nd) dgs_nil))))) ?_)
  walk_at "env"
  refine ws_cons (ws_if (td_cmp (ed_bin (ed_var 4 rfl) (ed_var 2 rfl) (by walk_at "b2")) (ed_bin (ed_var 5 rfl) (ed_var 3 rfl) (by walk_at "b2")) (by walk_at "c2")) (fun hc1 => ?_) (fun hc1 => ?_))
  · skip
    have hx := of_decide_eq_true hc1
    refine ws_cons (ws_ret (ED.eq (ed_lst (eo_sortedK (bs := rs) (enc := rwE) (kd := mX) G_middle_x (hr.mono (by decide)) (by rfl) (by rfl) B.«sorted» hsd (ed_var 0 rfl) (by exact fun b _ => .mk b) (by exact mX_ok hu))) ?_) (Or.inl rfl))
    unfold ordR; rw [if_pos hx]
  · skip
    have hx := of_decide_eq_false hc1
    refine ws_nil ?_
    refine ws_cons (ws_ret (ED.eq (ed_lst (eo_sortedK (bs := rs) (enc := rwE) (kd := mY) G_middle_y (hr.mono (by decide)) (by rfl) (by rfl) B.«sorted» hsd (ed_var 0 rfl) (by exact fun b _ => .mk b) (by exact mY_ok hu))) ?_) (Or.inl rfl))
    unfold ordR; rw [if_neg hx]
abbrev s_Tree_init_d0 : Stmt := inClass (top 18) 0
theorem sc_Tree_init_d0 : FnScope ["self", "rows", "in_order", "middle", "_", "box"] ["self", "rows"] (defScope s_Tree_init_d0) := ⟨rfl, rfl, rfl, by decide +kernel, rfl, by decide +kernel, by decide +kernel⟩
theorem ok_Tree_init_d0 {f : Addr} {fd : FuncData} (F : Fun K "__init__" "Tree.__init__" s_Tree_init_d0 f fd) (B : Bt mg) (KC : Kt K mg) (KL : Lt K mg) (XF : Xt K mg)  :
    FnOk P w K mg base CX0 5 f fd ["self", "rows"] (spI K "Tree" R_Tree_init_d0) := by
  refine fn_okI (k := 4) F sc_Tree_init_d0 (fun ds ns es h => by cases h; rfl) fun a0 ds ns es hR cdv A outer s H E hr => ?_
  have nd := sc_Tree_init_d0.nd
  have hu := hr.units
  rcases hR with ⟨dd, rs, hsd, hrl⟩
  walk_at "en"
  refine ws_cons (ws_setF 0 KL.«Tree» rfl (ed_tup ad_nil) ?_)
  simp only [List.cons_append, List.nil_append]
  walk_at "env"
  refine ws_cons (ws_setF 0 KL.«Tree» rfl ed_non ?_)
  simp only [List.cons_append, List.nil_append]
  walk_at "env"
  refine ws_cons (ws_setF 0 KL.«Tree» rfl (ed_tup ad_nil) ?_)
  simp only [List.cons_append, List.nil_append]
  walk_at "env"
  refine ws_cons (ws_if (td_cmp (ed_callB (id := "len") (by rfl) B.«len» bb_len (ad_cons (ed_var 1 rfl) ad_nil) ((bc_lenSeq hsd))) (ed_const KC.«LEAF_SIZE» (by rfl)) (by walk_at "c2")) (fun hc1 => ?_) (fun hc1 => ?_))
  · skip
    have hc8 : rs.length ≤ 8 := by have h := of_decide_eq_true hc1; rw [List.length_map] at h; omega
    refine ws_cons (ws_setFU 0 0 KL.«Tree» rfl (ed_callT (T := "tuple") (by rfl) B.«tuple» bb_tuple (ad_cons (ed_var 1 rfl) ad_nil) ((bc_tupSeq hsd))) ?_)
    simp only [List.set_cons_zero, List.set_cons_succ]
    refine ws_nil ?_
    refine ws_nil ?_
    exact ⟨_, _, rfl, rfl, (by first | (rw [bd_leaf hc8]; exact fun _ _ h => h) | (rw [bd_node hc8]; exact fun _ _ h => h))⟩
  · skip
    exfalso; have h := of_decide_eq_false hc1; rw [List.length_map] at h; omega
abbrev s_Tree_init_d1 : Stmt := inClass (top 18) 0
theorem sc_Tree_init_d1 : FnScope ["self", "rows", "in_order", "middle", "_", "box"] ["self", "rows"] (defScope s_Tree_init_d1) := ⟨rfl, rfl, rfl, by decide +kernel, rfl, by decide +kernel, by decide +kernel⟩
theorem ok_Tree_init_d1 {f : Addr} {fd : FuncData} (F : Fun K "__init__" "Tree.__init__" s_Tree_init_d1 f fd) (B : Bt mg) (KC : Kt K mg) (KL : Lt K mg) (XF : Xt K mg) (G_Tree_init_d0 : FnI P w K mg base "Tree" 5 R_Tree_init_d0) (G_Tree_init_d0 : FnI P w K mg base "Tree" 5 R_Tree_init_d0) (G_along_longer_side : Fn P w K mg base "along_longer_side" 4 R_along_longer_side) (G_hull : Fn P w K mg base "hull" 1 R_hull) :
    FnOk P w K mg base CX0 7 f fd ["self", "rows"] (spI K "Tree" R_Tree_init_d1) := by
  refine fn_okI (k := 6) F sc_Tree_init_d1 (fun ds ns es h => by cases h; rfl) fun a0 ds ns es hR cdv A outer s H E hr => ?_
  have nd := sc_Tree_init_d1.nd
  have hu := hr.units
  rcases hR with ⟨dd, rs, hsd, hrl⟩
  walk_at "en"
  refine ws_cons (ws_setF 0 KL.«Tree» rfl (ed_tup ad_nil) ?_)
  simp only [List.cons_append, List.nil_append]
  walk_at "env"
  refine ws_cons (ws_setF 0 KL.«Tree» rfl ed_non ?_)
  simp only [List.cons_append, List.nil_append]
  walk_at "env"
  refine ws_cons (ws_setF 0 KL.«Tree» rfl (ed_tup ad_nil) ?_)
  simp only [List.cons_append, List.nil_append]
  walk_at "env"
  refine ws_cons (ws_if (td_cmp (ed_callB (id := "len") (by rfl) B.«len» bb_len (ad_cons (ed_var 1 rfl) ad_nil) ((bc_lenSeq hsd))) (ed_const KC.«LEAF_SIZE» (by rfl)) (by walk_at "c2")) (fun hc1 => ?_) (fun hc1 => ?_))
  · skip
    have hc8 : rs.length ≤ 8 := by have h := of_decide_eq_true hc1; rw [List.length_map] at h; omega
    refine ws_cons (ws_setFU 0 0 KL.«Tree» rfl (ed_callT (T := "tuple") (by rfl) B.«tuple» bb_tuple (ad_cons (ed_var 1 rfl) ad_nil) ((bc_tupSeq hsd))) ?_)
    simp only [List.set_cons_zero, List.set_cons_succ]
    refine ws_nil ?_
    refine ws_nil ?_
    exact ⟨_, _, rfl, rfl, (by first | (rw [bd_leaf hc8]; exact fun _ _ h => h) | (rw [bd_node hc8]; exact fun _ _ h => h))⟩
  · skip
    have hc8 : ¬ rs.length ≤ 8 := by have h := of_decide_eq_false hc1; rw [List.length_map] at h; omega
    have hne : rs ≠ [] := fun e => by subst e; simp at hc8
    refine ws_cons (ws_setFU 0 1 KL.«Tree» rfl (ED.eq (ed_call G_hull (hr.mono (by decide)) (by rfl) (ad_cons (ed_lst (eo_map2 [("_", 4), ("box", 5)] (rs) (rwE) (fun r : TRow => r.2) (Bx.e) rfl nd (blkOk_by (N := ["self", "rows", "in_order", "middle", "_", "box"]) (sc := defScope s_Tree_init_d1) (by decide +kernel)) (id_seq hsd (ed_var 1 rfl)) (rfl) (fun r hxm => ⟨_, by rfl, fun _ _ _ _ _ => ⟨(dg_tup rfl (dgs_cons (dg_name 4 nd) (dgs_cons (dg_name 5 nd) dgs_nil))), tds_nil, (ed_var 5 rfl)⟩⟩) (by rw [sizeLine_eq]; omega))) ad_nil) (by exact .mk _ (rs.map (·.2)) _ _ _ _ (.lst _) (hullR_ok hne) (by rw [List.length_map]; omega))) (show _ = (hullR rs).e from rfl)) ?_)
    simp only [List.set_cons_zero, List.set_cons_succ]
    refine ws_cons (ws_set 2 nd (ed_call G_along_longer_side (hr.mono (by decide)) (by rfl) (ad_cons (ed_var 1 rfl) (ad_cons (ed_fldO 0 1 KL.«Tree» rfl) ad_nil)) (by exact .mk _ rs (hullR rs) hsd)) ?_)
    walk_at "env"
    refine ws_cons (ws_set 3 nd (ED.eq (ed_bin (ed_callB (id := "len") (by rfl) B.«len» bb_len (ad_cons (ed_var 1 rfl) ad_nil) ((bc_lenSeq hsd))) ed_int (by walk_at "b2")) (show _ = (D.int ((rs.length / 2 : Nat) : Int)) from by rw [List.length_map]; rfl)) ?_)
    walk_at "env"
    refine ws_cons (ws_setFU 0 2 KL.«Tree» rfl (ed_tup (ad_cons (ed_own (eo_make G_Tree_init_d0 (hr.mono (by decide)) (by rfl) (ad_cons (ED.eq (ed_lst (eo_slice (ed_var 2 rfl) no_part (some_part (ed_var 3 rfl)))) (show _ = (D.lst (((ordR (hullR rs) rs).take (rs.length / 2)).map rwE)) from by rw [cutTr _ (by omega), List.map_take]; rfl)) ad_nil) (by first | exact .mk _ ((ordR (hullR rs) rs).take (rs.length / 2)) (.lst _) (by rw [List.length_take]; omega) | exact .mk _ ((ordR (hullR rs) rs).drop (rs.length / 2)) (.lst _) (by rw [List.length_drop, (ordR_perm (hullR rs) rs).length_eq]; omega)))) (ad_cons (ed_own (eo_make G_Tree_init_d0 (hr.mono (by decide)) (by rfl) (ad_cons (ED.eq (ed_lst (eo_slice (ed_var 2 rfl) (some_part (ed_var 3 rfl)) no_part)) (show _ = (D.lst (((ordR (hullR rs) rs).drop (rs.length / 2)).map rwE)) from by rw [cutDr2 _ (by omega), List.map_drop]; rfl)) ad_nil) (by first | exact .mk _ ((ordR (hullR rs) rs).take (rs.length / 2)) (.lst _) (by rw [List.length_take]; omega) | exact .mk _ ((ordR (hullR rs) rs).drop (rs.length / 2)) (.lst _) (by rw [List.length_drop, (ordR_perm (hullR rs) rs).length_eq]; omega)))) ad_nil))) ?_)
    simp only [List.set_cons_zero, List.set_cons_succ]
    refine ws_nil ?_
    refine ws_nil ?_
    exact ⟨_, _, rfl, rfl, (by first | (rw [bd_leaf hc8]; exact fun _ _ h => h) | (rw [bd_node hc8]; exact fun _ _ h => h))⟩
abbrev s_Tree_init_d2 : Stmt := inClass (top 18) 0
theorem sc_Tree_init_d2 : FnScope ["self", "rows", "in_order", "middle", "_", "box"] ["self", "rows"] (defScope s_Tree_init_d2) := ⟨rfl, rfl, rfl, by decide +kernel, rfl, by decide +kernel, by decide +kernel⟩
theorem ok_Tree_init_d2 {f : Addr} {fd : FuncData} (F : Fun K "__init__" "Tree.__init__" s_Tree_init_d2 f fd) (B : Bt mg) (KC : Kt K mg) (KL : Lt K mg) (XF : Xt K mg) (G_Tree_init_d1 : FnI P w K mg base "Tree" 7 R_Tree_init_d1) (G_Tree_init_d1 : FnI P w K mg base "Tree" 7 R_Tree_init_d1) (G_along_longer_side : Fn P w K mg base "along_longer_side" 4 R_along_longer_side) (G_hull : Fn P w K mg base "hull" 1 R_hull) :
    FnOk P w K mg base CX0 9 f fd ["self", "rows"] (spI K "Tree" R_Tree_init_d2) := by
  refine fn_okI (k := 8) F sc_Tree_init_d2 (fun ds ns es h => by cases h; rfl) fun a0 ds ns es hR cdv A outer s H E hr => ?_
  have nd := sc_Tree_init_d2.nd
  have hu := hr.units
  rcases hR with ⟨dd, rs, hsd, hrl⟩
  walk_at "en"
  refine ws_cons (ws_setF 0 KL.«Tree» rfl (ed_tup ad_nil) ?_)
  simp only [List.cons_append, List.nil_append]
  walk_at "env"
  refine ws_cons (ws_setF 0 KL.«Tree» rfl ed_non ?_)
  simp only [List.cons_append, List.nil_append]
  walk_at "env"
  refine ws_cons (ws_setF 0 KL.«Tree» rfl (ed_tup ad_nil) ?_)
  simp only [List.cons_append, List.nil_append]
  walk_at "env"
  refine ws_cons (ws_if (td_cmp (ed_callB (id := "len") (by rfl) B.«len» bb_len (ad_cons (ed_var 1 rfl) ad_nil) ((bc_lenSeq hsd))) (ed_const KC.«LEAF_SIZE» (by rfl)) (by walk_at "c2")) (fun hc1 => ?_) (fun hc1 => ?_))
  · skip
    have hc8 : rs.length ≤ 8 := by have h := of_decide_eq_true hc1; rw [List.length_map] at h; omega
    refine ws_cons (ws_setFU 0 0 KL.«Tree» rfl (ed_callT (T := "tuple") (by rfl) B.«tuple» bb_tuple (ad_cons (ed_var 1 rfl) ad_nil) ((bc_tupSeq hsd))) ?_)
    simp only [List.set_cons_zero, List.set_cons_succ]
    refine ws_nil ?_
    refine ws_nil ?_
    exact ⟨_, _, rfl, rfl, (by first | (rw [bd_leaf hc8]; exact fun _ _ h => h) | (rw [bd_node hc8]; exact fun _ _ h => h))⟩
  · skip
    have hc8 : ¬ rs.length ≤ 8 := by have h := of_decide_eq_false hc1; rw [List.length_map] at h; omega
    have hne : rs ≠ [] := fun e => by subst e; simp at hc8
    refine ws_cons (ws_setFU 0 1 KL.«Tree» rfl (ED.eq (ed_call G_hull (hr.mono (by decide)) (by rfl) (ad_cons (ed_lst (eo_map2 [("_", 4), ("box", 5)] (rs) (rwE) (fun r : TRow => r.2) (Bx.e) rfl nd (blkOk_by (N := ["self", "rows", "in_order", "middle", "_", "box"]) (sc := defScope s_Tree_init_d2) (by decide +kernel)) (id_seq hsd (ed_var 1 rfl)) (rfl) (fun r hxm => ⟨_, by rfl, fun _ _ _ _ _ => ⟨(dg_tup rfl (dgs_cons (dg_name 4 nd) (dgs_cons (dg_name 5 nd) dgs_nil))), tds_nil, (ed_var 5 rfl)⟩⟩) (by rw [sizeLine_eq]; omega))) ad_nil) (by exact .mk _ (rs.map (·.2)) _ _ _ _ (.lst _) (hullR_ok hne) (by rw [List.length_map]; omega))) (show _ = (hullR rs).e from rfl)) ?_)
    simp only [List.set_cons_zero, List.set_cons_succ]
    refine ws_cons (ws_set 2 nd (ed_call G_along_longer_side (hr.mono (by decide)) (by rfl) (ad_cons (ed_var 1 rfl) (ad_cons (ed_fldO 0 1 KL.«Tree» rfl) ad_nil)) (by exact .mk _ rs (hullR rs) hsd)) ?_)
    walk_at "env"
    refine ws_cons (ws_set 3 nd (ED.eq (ed_bin (ed_callB (id := "len") (by rfl) B.«len» bb_len (ad_cons (ed_var 1 rfl) ad_nil) ((bc_lenSeq hsd))) ed_int (by walk_at "b2")) (show _ = (D.int ((rs.length / 2 : Nat) : Int)) from by rw [List.length_map]; rfl)) ?_)
    walk_at "env"
    refine ws_cons (ws_setFU 0 2 KL.«Tree» rfl (ed_tup (ad_cons (ed_own (eo_make G_Tree_init_d1 (hr.mono (by decide)) (by rfl) (ad_cons (ED.eq (ed_lst (eo_slice (ed_var 2 rfl) no_part (some_part (ed_var 3 rfl)))) (show _ = (D.lst (((ordR (hullR rs) rs).take (rs.length / 2)).map rwE)) from by rw [cutTr _ (by omega), List.map_take]; rfl)) ad_nil) (by first | exact .mk _ ((ordR (hullR rs) rs).take (rs.length / 2)) (.lst _) (by rw [List.length_take]; omega) | exact .mk _ ((ordR (hullR rs) rs).drop (rs.length / 2)) (.lst _) (by rw [List.length_drop, (ordR_perm (hullR rs) rs).length_eq]; omega)))) (ad_cons (ed_own (eo_make G_Tree_init_d1 (hr.mono (by decide)) (by rfl) (ad_cons (ED.eq (ed_lst (eo_slice (ed_var 2 rfl) (some_part (ed_var 3 rfl)) no_part)) (show _ = (D.lst (((ordR (hullR rs) rs).drop (rs.length / 2)).map rwE)) from by rw [cutDr2 _ (by omega), List.map_drop]; rfl)) ad_nil) (by first | exact .mk _ ((ordR (hullR rs) rs).take (rs.length / 2)) (.lst _) (by rw [List.length_take]; omega) | exact .mk _ ((ordR (hullR rs) rs).drop (rs.length / 2)) (.lst _) (by rw [List.length_drop, (ordR_perm (hullR rs) rs).length_eq]; omega)))) ad_nil))) ?_)
    simp only [List.set_cons_zero, List.set_cons_succ]
    refine ws_nil ?_
    refine ws_nil ?_
    exact ⟨_, _, rfl, rfl, (by first | (rw [bd_leaf hc8]; exact fun _ _ h => h) | (rw [bd_node hc8]; exact fun _ _ h => h))⟩
abbrev s_Tree_init_d3 : Stmt := inClass (top 18) 0
theorem sc_Tree_init_d3 : FnScope ["self", "rows", "in_order", "middle", "_", "box"] ["self", "rows"] (defScope s_Tree_init_d3) := ⟨rfl, rfl, rfl, by decide +kernel, rfl, by decide +kernel, by decide +kernel⟩
theorem ok_Tree_init_d3 {f : Addr} {fd : FuncData} (F : Fun K "__init__" "Tree.__init__" s_Tree_init_d3 f fd) (B : Bt mg) (KC : Kt K mg) (KL : Lt K mg) (XF : Xt K mg) (G_Tree_init_d2 : FnI P w K mg base "Tree" 9 R_Tree_init_d2) (G_Tree_init_d2 : FnI P w K mg base "Tree" 9 R_Tree_init_d2) (G_along_longer_side : Fn P w K mg base "along_longer_side" 4 R_along_longer_side) (G_hull : Fn P w K mg base "hull" 1 R_hull) :
    FnOk P w K mg base CX0 11 f fd ["self", "rows"] (spI K "Tree" R_Tree_init_d3) := by
  refine fn_okI (k := 10) F sc_Tree_init_d3 (fun ds ns es h => by cases h; rfl) fun a0 ds ns es hR cdv A outer s H E hr => ?_
  have nd := sc_Tree_init_d3.nd
  have hu := hr.units
  rcases hR with ⟨dd, rs, hsd, hrl⟩
  walk_at "en"
  refine ws_cons (ws_setF 0 KL.«Tree» rfl (ed_tup ad_nil) ?_)
  simp only [List.cons_append, List.nil_append]
  walk_at "env"
  refine ws_cons (ws_setF 0 KL.«Tree» rfl ed_non ?_)
  simp only [List.cons_append, List.nil_append]
  walk_at "env"
  refine ws_cons (ws_setF 0 KL.«Tree» rfl (ed_tup ad_nil) ?_)
  simp only [List.cons_append, List.nil_append]
  walk_at "env"
  refine ws_cons (ws_if (td_cmp (ed_callB (id := "len") (by rfl) B.«len» bb_len (ad_cons (ed_var 1 rfl) ad_nil) ((bc_lenSeq hsd))) (ed_const KC.«LEAF_SIZE» (by rfl)) (by walk_at "c2")) (fun hc1 => ?_) (fun hc1 => ?_))
  · skip
    have hc8 : rs.length ≤ 8 := by have h := of_decide_eq_true hc1; rw [List.length_map] at h; omega
    refine ws_cons (ws_setFU 0 0 KL.«Tree» rfl (ed_callT (T := "tuple") (by rfl) B.«tuple» bb_tuple (ad_cons (ed_var 1 rfl) ad_nil) ((bc_tupSeq hsd))) ?_)
    simp only [List.set_cons_zero, List.set_cons_succ]
    refine ws_nil ?_
    refine ws_nil ?_
    exact ⟨_, _, rfl, rfl, (by first | (rw [bd_leaf hc8]; exact fun _ _ h => h) | (rw [bd_node hc8]; exact fun _ _ h => h))⟩
  · skip
    have hc8 : ¬ rs.length ≤ 8 := by have h := of_decide_eq_false hc1; rw [List.length_map] at h; omega
    have hne : rs ≠ [] := fun e => by subst e; simp at hc8
    refine ws_cons (ws_setFU 0 1 KL.«Tree» rfl (ED.eq (ed_call G_hull (hr.mono (by decide)) (by rfl) (ad_cons (ed_lst (eo_map2 [("_", 4), ("box", 5)] (rs) (rwE) (fun r : TRow => r.2) (Bx.e) rfl nd (blkOk_by (N := ["self", "rows", "in_order", "middle", "_", "box"]) (sc := defScope s_Tree_init_d3) (by decide +kernel)) (id_seq hsd (ed_var 1 rfl)) (rfl) (fun r hxm => ⟨_, by rfl, fun _ _ _ _ _ => ⟨(dg_tup rfl (dgs_cons (dg_name 4 nd) (dgs_cons (dg_name 5 nd) dgs_nil))), tds_nil, (ed_var 5 rfl)⟩⟩) (by rw [sizeLine_eq]; omega))) ad_nil) (by exact .mk _ (rs.map (·.2)) _ _ _ _ (.lst _) (hullR_ok hne) (by rw [List.length_map]; omega))) (show _ = (hullR rs).e from rfl)) ?_)
    simp only [List.set_cons_zero, List.set_cons_succ]
    refine ws_cons (ws_set 2 nd (ed_call G_along_longer_side (hr.mono (by decide)) (by rfl) (ad_cons (ed_var 1 rfl) (ad_cons (ed_fldO 0 1 KL.«Tree» rfl) ad_nil)) (by exact .mk _ rs (hullR rs) hsd)) ?_)
    walk_at "env"
    refine ws_cons (ws_set 3 nd (ED.eq (ed_bin (ed_callB (id := "len") (by rfl) B.«len» bb_len (ad_cons (ed_var 1 rfl) ad_nil) ((bc_lenSeq hsd))) ed_int (by walk_at "b2")) (show _ = (D.int ((rs.length / 2 : Nat) : Int)) from by rw [List.length_map]; rfl)) ?_)
    walk_at "env"
    refine ws_cons (ws_setFU 0 2 KL.«Tree» rfl (ed_tup (ad_cons (ed_own (eo_make G_Tree_init_d2 (hr.mono (by decide)) (by rfl) (ad_cons (ED.eq (ed_lst (eo_slice (ed_var 2 rfl) no_part (some_part (ed_var 3 rfl)))) (show _ = (D.lst (((ordR (hullR rs) rs).take (rs.length / 2)).map rwE)) from by rw [cutTr _ (by omega), List.map_take]; rfl)) ad_nil) (by first | exact .mk _ ((ordR (hullR rs) rs).take (rs.length / 2)) (.lst _) (by rw [List.length_take]; omega) | exact .mk _ ((ordR (hullR rs) rs).drop (rs.length / 2)) (.lst _) (by rw [List.length_drop, (ordR_perm (hullR rs) rs).length_eq]; omega)))) (ad_cons (ed_own (eo_make G_Tree_init_d2 (hr.mono (by decide)) (by rfl) (ad_cons (ED.eq (ed_lst (eo_slice (ed_var 2 rfl) (some_part (ed_var 3 rfl)) no_part)) (show _ = (D.lst (((ordR (hullR rs) rs).drop (rs.length / 2)).map rwE)) from by rw [cutDr2 _ (by omega), List.map_drop]; rfl)) ad_nil) (by first | exact .mk _ ((ordR (hullR rs) rs).take (rs.length / 2)) (.lst _) (by rw [List.length_take]; omega) | exact .mk _ ((ordR (hullR rs) rs).drop (rs.length / 2)) (.lst _) (by rw [List.length_drop, (ordR_perm (hullR rs) rs).length_eq]; omega)))) ad_nil))) ?_)
    simp only [List.set_cons_zero, List.set_cons_succ]
    refine ws_nil ?_
    refine ws_nil ?_
    exact ⟨_, _, rfl, rfl, (by first | (rw [bd_leaf hc8]; exact fun _ _ h => h) | (rw [bd_node hc8]; exact fun _ _ h => h))⟩
abbrev s_Tree_find_leaf : Stmt := inClass (top 18) 1
theorem sc_Tree_find_leaf : FnScope ["self", "window", "found", "part", "number", "box"] ["self", "window"] (defScope s_Tree_find_leaf) := ⟨rfl, rfl, rfl, by decide +kernel, rfl, by decide +kernel, by decide +kernel⟩
theorem ok_Tree_find_leaf {f : Addr} {fd : FuncData} (F : Fun K "find" "Tree.find" s_Tree_find_leaf f fd) (B : Bt mg) (KC : Kt K mg) (KL : Lt K mg) (XF : Xt K mg) (G_overlap : Fn P w K mg base "overlap" 2 R_overlap) :
    FnOk P w K mg base CX0 3 f fd ["self", "window"] (spO K R_Tree_find_leaf) := by
  refine fn_okO (k := 2) F sc_Tree_find_leaf (fun ds d h => by cases h <;> rfl) fun ds d hR cdv A outer s H E hr => ?_
  have nd := sc_Tree_find_leaf.nd
  have hu := hr.units
  rcases hR with ⟨rs, w, hl⟩
  walk_at "en"
  refine ws_cons (ws_if (TD.eq (td_tw (tw_and (k' := true) (td_truth (k := false) (ed_fld 2 KL.«Tree» (ed_var 0 rfl)) rfl) (fun h => by cases h))) rfl) (fun hc1 => ?_) (fun hc1 => ?_))
  · skip
    cases hc1
  · skip
    clear hc1
    refine ws_nil ?_
    refine ws_cons (ws_setFilter 2 [("number", 4), ("box", 5)] (rs) (rwE) (fun r : TRow => hitB r.2 w) (fun r : TRow => D.int r.1) rfl nd (blkOk_by (N := ["self", "window", "found", "part", "number", "box"]) (sc := defScope s_Tree_find_leaf) (by decide +kernel)) (id_tup (ed_fld 0 KL.«Tree» (ed_var 0 rfl))) (rfl) (fun r hxm => turn_if (fun hp2 => ⟨_, by rfl, fun _ _ _ _ _ => ⟨(dg_tup rfl (dgs_cons (dg_name 4 nd) (dgs_cons (dg_name 5 nd) dgs_nil))), tds_one (TD.eq (TD.eq (td_cmp (ed_call G_overlap (hr.mono (by decide)) (by rfl) (ad_cons (ed_var 5 rfl) (ad_cons (ed_var 1 rfl) ad_nil)) (by walk_at "mk")) ed_non (by walk_at "c2")) (ov_hit r.2 w)) hp2), (ed_var 4 rfl)⟩⟩) (fun hp2 => ⟨_, by rfl, fun _ _ _ _ _ => ⟨(dg_tup rfl (dgs_cons (dg_name 4 nd) (dgs_cons (dg_name 5 nd) dgs_nil))), tds_one (TD.eq (TD.eq (td_cmp (ed_call G_overlap (hr.mono (by decide)) (by rfl) (ad_cons (ed_var 5 rfl) (ad_cons (ed_var 1 rfl) ad_nil)) (by walk_at "mk")) ed_non (by walk_at "c2")) (ov_hit r.2 w)) hp2)⟩⟩)) (by rw [sizeLine_eq]; omega) ?_)
    walk_at "env"
    refine ws_cons (ws_forNil rfl (id_tup (ed_fld 2 KL.«Tree» (ed_var 0 rfl))) ?_)
    refine ws_share 2 rfl ?_
    walk_at "env"
    refine ws_cons (ws_retE (EO.eq (eo_callB (id := "sorted") (by rfl) B.«sorted» bb_sorted (ad_cons (ED.eq (ed_var 2 rfl) (show _ = D.lst (((rs.filter fun r => hitB r.2 w).map (·.1)).map .int) by rw [List.map_map]; rfl)) ad_nil) bo_sortedI) ?_) rfl)
    rfl
abbrev s_Tree_find_n1 : Stmt := inClass (top 18) 1
theorem sc_Tree_find_n1 : FnScope ["self", "window", "found", "part", "number", "box"] ["self", "window"] (defScope s_Tree_find_n1) := ⟨rfl, rfl, rfl, by decide +kernel, rfl, by decide +kernel, by decide +kernel⟩
theorem ok_Tree_find_n1 {f : Addr} {fd : FuncData} (F : Fun K "find" "Tree.find" s_Tree_find_n1 f fd) (B : Bt mg) (KC : Kt K mg) (KL : Lt K mg) (XF : Xt K mg) (G_Tree_find_leaf : FnMO P w K mg base "Tree" "find" 3 R_Tree_find_leaf) (G_overlap : Fn P w K mg base "overlap" 2 R_overlap) :
    FnOk P w K mg base CX0 4 f fd ["self", "window"] (spO K R_Tree_find_n1) := by
  refine fn_okO (k := 3) F sc_Tree_find_n1 (fun ds d h => by cases h <;> rfl) fun ds d hR cdv A outer s H E hr => ?_
  have nd := sc_Tree_find_n1.nd
  have hu := hr.units
  rcases hR with ⟨h, l, r, w, hdp, hok, hl⟩
  have hl2 : l.all.length + r.all.length ≤ 1000 := by have q : (l.all ++ r.all).length ≤ 1000 := hl; rw [List.length_append] at q; exact q
  walk_at "en"
  refine ws_cons (ws_if (td_tw (tw_and (td_truth (k := true) (ed_fld 2 KL.«Tree» (ed_var 0 rfl)) rfl) (fun _ => tw_and1 (td_cmp (ed_call G_overlap (hr.mono (by decide)) (by rfl) (ad_cons (ed_fld 1 KL.«Tree» (ed_var 0 rfl)) (ad_cons (ed_var 1 rfl) ad_nil)) (by walk_at "mk")) ed_non c2_isN (by rfl))))) (fun hc1 => ?_) (fun hc1 => ?_))
  · skip
    have hh := ov_none hc1
    refine ws_cons (ws_retE (EO.eq (eo_lst ad_nil) ?_) rfl)
    unfold fnd; rw [if_neg (by rw [hh]; decide)]; rfl
  · skip
    have hh := ov_some hc1
    refine ws_nil ?_
    refine ws_cons (ws_setFilter 2 [("number", 4), ("box", 5)] (([] : List TRow)) (rwE) (fun r : TRow => hitB r.2 w) (fun r : TRow => D.int r.1) rfl nd (blkOk_by (N := ["self", "window", "found", "part", "number", "box"]) (sc := defScope s_Tree_find_n1) (by decide +kernel)) (id_tup (ed_fld 0 KL.«Tree» (ed_var 0 rfl))) (rfl) (fun x hxm => turn_if (fun hp2 => ⟨_, by rfl, fun _ _ _ _ _ => ⟨(dg_tup rfl (dgs_cons (dg_name 4 nd) (dgs_cons (dg_name 5 nd) dgs_nil))), tds_one (TD.eq (TD.eq (td_cmp (ed_call G_overlap (hr.mono (by decide)) (by rfl) (ad_cons (ed_var 5 rfl) (ad_cons (ed_var 1 rfl) ad_nil)) (by walk_at "mk")) ed_non (by walk_at "c2")) (ov_hit x.2 w)) hp2), (ed_var 4 rfl)⟩⟩) (fun hp2 => ⟨_, by rfl, fun _ _ _ _ _ => ⟨(dg_tup rfl (dgs_cons (dg_name 4 nd) (dgs_cons (dg_name 5 nd) dgs_nil))), tds_one (TD.eq (TD.eq (td_cmp (ed_call G_overlap (hr.mono (by decide)) (by rfl) (ad_cons (ed_var 5 rfl) (ad_cons (ed_var 1 rfl) ad_nil)) (by walk_at "mk")) ed_non (by walk_at "c2")) (ov_hit x.2 w)) hp2)⟩⟩)) (by simp) ?_)
    walk_at "env"
    refine ws_cons (ws_forU ([l, r]) (trD) rfl (id_tup (ed_fld 2 KL.«Tree» (ed_var 0 rfl))) (by rfl) (U := Sl) (fun i u => [(2, .ow (.lst ((([l, r].take i).flatMap (fnd w)).map .int))), (3, u)]) (fun r => (r.getD 3 .no)) (fun _ => True) (rfl) (True.intro) ?_ ?_)
    · intro i0 t u0 hx0 hP0
      have htk := kid_ok (List.mem_of_getElem? hx0) hdp hok hl
      refine ⟨_, _, (dg_name 3 nd), ?_⟩
      walk_at "env"
      refine ws_cons (ws_extendL 2 rfl (zs := (fnd w t).map .int) (by cases t with
          | leaf rs => exact (eo_meth G_Tree_find_leaf (hr.mono (by decide)) (ed_var 3 rfl) (ad_cons (ed_var 1 rfl) ad_nil) (.mk rs w htk.2.2))
          | node h2 l2 r2 => exact absurd htk.1 (by simp [Tr.dep])) (by have h1 := fl_len w hok i0; have h2 := fnd_len w htk.2.1; simp only [List.length_map]; rw [sizeLine_eq]; omega) ?_ (fun h => ps_expr (pe_bm PySem.F.plainAttrs_list PySem.F.slot_list_extend PySem.F.type_list_extend mt_extend (pv 2) h)))
      walk_at "env"
      refine ws_nil ?_
      refine ⟨?_, True.intro⟩
      rw [List.take_add_one, hx0]
      simp only [Option.toList, List.flatMap_append, List.map_append, List.flatMap_cons, List.flatMap_nil, List.append_nil]
      rfl
    · intro u0 hP0
      walk_at "env"
      rw [show [l, r].take [l, r].length = [l, r] from rfl]
      refine ws_share 2 rfl ?_
      walk_at "env"
      refine ws_cons (ws_retE (EO.eq (eo_callB (id := "sorted") (by rfl) B.«sorted» bb_sorted (ad_cons (ed_var 2 rfl) ad_nil) bo_sortedI) ?_) rfl)
      unfold fnd; rw [if_pos hh]; simp only [List.flatMap_cons, List.flatMap_nil, List.append_nil]
abbrev s_Tree_find_n2 : Stmt := inClass (top 18) 1
theorem sc_Tree_find_n2 : FnScope ["self", "window", "found", "part", "number", "box"] ["self", "window"] (defScope s_Tree_find_n2) := ⟨rfl, rfl, rfl, by decide +kernel, rfl, by decide +kernel, by decide +kernel⟩
theorem ok_Tree_find_n2 {f : Addr} {fd : FuncData} (F : Fun K "find" "Tree.find" s_Tree_find_n2 f fd) (B : Bt mg) (KC : Kt K mg) (KL : Lt K mg) (XF : Xt K mg) (G_Tree_find_leaf : FnMO P w K mg base "Tree" "find" 3 R_Tree_find_leaf) (G_Tree_find_n1 : FnMO P w K mg base "Tree" "find" 4 R_Tree_find_n1) (G_overlap : Fn P w K mg base "overlap" 2 R_overlap) :
    FnOk P w K mg base CX0 5 f fd ["self", "window"] (spO K R_Tree_find_n2) := by
  refine fn_okO (k := 4) F sc_Tree_find_n2 (fun ds d h => by cases h <;> rfl) fun ds d hR cdv A outer s H E hr => ?_
  have nd := sc_Tree_find_n2.nd
  have hu := hr.units
  rcases hR with ⟨h, l, r, w, hdp, hok, hl⟩
  have hl2 : l.all.length + r.all.length ≤ 1000 := by have q : (l.all ++ r.all).length ≤ 1000 := hl; rw [List.length_append] at q; exact q
  walk_at "en"
  refine ws_cons (ws_if (td_tw (tw_and (td_truth (k := true) (ed_fld 2 KL.«Tree» (ed_var 0 rfl)) rfl) (fun _ => tw_and1 (td_cmp (ed_call G_overlap (hr.mono (by decide)) (by rfl) (ad_cons (ed_fld 1 KL.«Tree» (ed_var 0 rfl)) (ad_cons (ed_var 1 rfl) ad_nil)) (by walk_at "mk")) ed_non c2_isN (by rfl))))) (fun hc1 => ?_) (fun hc1 => ?_))
  · skip
    have hh := ov_none hc1
    refine ws_cons (ws_retE (EO.eq (eo_lst ad_nil) ?_) rfl)
    unfold fnd; rw [if_neg (by rw [hh]; decide)]; rfl
  · skip
    have hh := ov_some hc1
    refine ws_nil ?_
    refine ws_cons (ws_setFilter 2 [("number", 4), ("box", 5)] (([] : List TRow)) (rwE) (fun r : TRow => hitB r.2 w) (fun r : TRow => D.int r.1) rfl nd (blkOk_by (N := ["self", "window", "found", "part", "number", "box"]) (sc := defScope s_Tree_find_n2) (by decide +kernel)) (id_tup (ed_fld 0 KL.«Tree» (ed_var 0 rfl))) (rfl) (fun x hxm => turn_if (fun hp2 => ⟨_, by rfl, fun _ _ _ _ _ => ⟨(dg_tup rfl (dgs_cons (dg_name 4 nd) (dgs_cons (dg_name 5 nd) dgs_nil))), tds_one (TD.eq (TD.eq (td_cmp (ed_call G_overlap (hr.mono (by decide)) (by rfl) (ad_cons (ed_var 5 rfl) (ad_cons (ed_var 1 rfl) ad_nil)) (by walk_at "mk")) ed_non (by walk_at "c2")) (ov_hit x.2 w)) hp2), (ed_var 4 rfl)⟩⟩) (fun hp2 => ⟨_, by rfl, fun _ _ _ _ _ => ⟨(dg_tup rfl (dgs_cons (dg_name 4 nd) (dgs_cons (dg_name 5 nd) dgs_nil))), tds_one (TD.eq (TD.eq (td_cmp (ed_call G_overlap (hr.mono (by decide)) (by rfl) (ad_cons (ed_var 5 rfl) (ad_cons (ed_var 1 rfl) ad_nil)) (by walk_at "mk")) ed_non (by walk_at "c2")) (ov_hit x.2 w)) hp2)⟩⟩)) (by simp) ?_)
    walk_at "env"
    refine ws_cons (ws_forU ([l, r]) (trD) rfl (id_tup (ed_fld 2 KL.«Tree» (ed_var 0 rfl))) (by rfl) (U := Sl) (fun i u => [(2, .ow (.lst ((([l, r].take i).flatMap (fnd w)).map .int))), (3, u)]) (fun r => (r.getD 3 .no)) (fun _ => True) (rfl) (True.intro) ?_ ?_)
    · intro i0 t u0 hx0 hP0
      have htk := kid_ok (List.mem_of_getElem? hx0) hdp hok hl
      refine ⟨_, _, (dg_name 3 nd), ?_⟩
      walk_at "env"
      refine ws_cons (ws_extendL 2 rfl (zs := (fnd w t).map .int) (by cases t with
          | leaf rs => exact (eo_meth G_Tree_find_leaf (hr.mono (by decide)) (ed_var 3 rfl) (ad_cons (ed_var 1 rfl) ad_nil) (.mk rs w htk.2.2))
          | node h2 l2 r2 => exact (eo_meth G_Tree_find_n1 (hr.mono (by decide)) (ed_var 3 rfl) (ad_cons (ed_var 1 rfl) ad_nil) (.mk h2 l2 r2 w htk.1 htk.2.1 htk.2.2))) (by have h1 := fl_len w hok i0; have h2 := fnd_len w htk.2.1; simp only [List.length_map]; rw [sizeLine_eq]; omega) ?_ (fun h => ps_expr (pe_bm PySem.F.plainAttrs_list PySem.F.slot_list_extend PySem.F.type_list_extend mt_extend (pv 2) h)))
      walk_at "env"
      refine ws_nil ?_
      refine ⟨?_, True.intro⟩
      rw [List.take_add_one, hx0]
      simp only [Option.toList, List.flatMap_append, List.map_append, List.flatMap_cons, List.flatMap_nil, List.append_nil]
      rfl
    · intro u0 hP0
      walk_at "env"
      rw [show [l, r].take [l, r].length = [l, r] from rfl]
      refine ws_share 2 rfl ?_
      walk_at "env"
      refine ws_cons (ws_retE (EO.eq (eo_callB (id := "sorted") (by rfl) B.«sorted» bb_sorted (ad_cons (ed_var 2 rfl) ad_nil) bo_sortedI) ?_) rfl)
      unfold fnd; rw [if_pos hh]; simp only [List.flatMap_cons, List.flatMap_nil, List.append_nil]
abbrev s_Tree_find_n3 : Stmt := inClass (top 18) 1
theorem sc_Tree_find_n3 : FnScope ["self", "window", "found", "part", "number", "box"] ["self", "window"] (defScope s_Tree_find_n3) := ⟨rfl, rfl, rfl, by decide +kernel, rfl, by decide +kernel, by decide +kernel⟩
theorem ok_Tree_find_n3 {f : Addr} {fd : FuncData} (F : Fun K "find" "Tree.find" s_Tree_find_n3 f fd) (B : Bt mg) (KC : Kt K mg) (KL : Lt K mg) (XF : Xt K mg) (G_Tree_find_leaf : FnMO P w K mg base "Tree" "find" 3 R_Tree_find_leaf) (G_Tree_find_n2 : FnMO P w K mg base "Tree" "find" 5 R_Tree_find_n2) (G_overlap : Fn P w K mg base "overlap" 2 R_overlap) :
    FnOk P w K mg base CX0 6 f fd ["self", "window"] (spO K R_Tree_find_n3) := by
  refine fn_okO (k := 5) F sc_Tree_find_n3 (fun ds d h => by cases h <;> rfl) fun ds d hR cdv A outer s H E hr => ?_
  have nd := sc_Tree_find_n3.nd
  have hu := hr.units
  rcases hR with ⟨h, l, r, w, hdp, hok, hl⟩
  have hl2 : l.all.length + r.all.length ≤ 1000 := by have q : (l.all ++ r.all).length ≤ 1000 := hl; rw [List.length_append] at q; exact q
  walk_at "en"
  refine ws_cons (ws_if (td_tw (tw_and (td_truth (k := true) (ed_fld 2 KL.«Tree» (ed_var 0 rfl)) rfl) (fun _ => tw_and1 (td_cmp (ed_call G_overlap (hr.mono (by decide)) (by rfl) (ad_cons (ed_fld 1 KL.«Tree» (ed_var 0 rfl)) (ad_cons (ed_var 1 rfl) ad_nil)) (by walk_at "mk")) ed_non c2_isN (by rfl))))) (fun hc1 => ?_) (fun hc1 => ?_))
  · skip
    have hh := ov_none hc1
    refine ws_cons (ws_retE (EO.eq (eo_lst ad_nil) ?_) rfl)
    unfold fnd; rw [if_neg (by rw [hh]; decide)]; rfl
  · skip
    have hh := ov_some hc1
    refine ws_nil ?_
    refine ws_cons (ws_setFilter 2 [("number", 4), ("box", 5)] (([] : List TRow)) (rwE) (fun r : TRow => hitB r.2 w) (fun r : TRow => D.int r.1) rfl nd (blkOk_by (N := ["self", "window", "found", "part", "number", "box"]) (sc := defScope s_Tree_find_n3) (by decide +kernel)) (id_tup (ed_fld 0 KL.«Tree» (ed_var 0 rfl))) (rfl) (fun x hxm => turn_if (fun hp2 => ⟨_, by rfl, fun _ _ _ _ _ => ⟨(dg_tup rfl (dgs_cons (dg_name 4 nd) (dgs_cons (dg_name 5 nd) dgs_nil))), tds_one (TD.eq (TD.eq (td_cmp (ed_call G_overlap (hr.mono (by decide)) (by rfl) (ad_cons (ed_var 5 rfl) (ad_cons (ed_var 1 rfl) ad_nil)) (by walk_at "mk")) ed_non (by walk_at "c2")) (ov_hit x.2 w)) hp2), (ed_var 4 rfl)⟩⟩) (fun hp2 => ⟨_, by rfl, fun _ _ _ _ _ => ⟨(dg_tup rfl (dgs_cons (dg_name 4 nd) (dgs_cons (dg_name 5 nd) dgs_nil))), tds_one (TD.eq (TD.eq (td_cmp (ed_call G_overlap (hr.mono (by decide)) (by rfl) (ad_cons (ed_var 5 rfl) (ad_cons (ed_var 1 rfl) ad_nil)) (by walk_at "mk")) ed_non (by walk_at "c2")) (ov_hit x.2 w)) hp2)⟩⟩)) (by simp) ?_)
    walk_at "env"
    refine ws_cons (ws_forU ([l, r]) (trD) rfl (id_tup (ed_fld 2 KL.«Tree» (ed_var 0 rfl))) (by rfl) (U := Sl) (fun i u => [(2, .ow (.lst ((([l, r].take i).flatMap (fnd w)).map .int))), (3, u)]) (fun r => (r.getD 3 .no)) (fun _ => True) (rfl) (True.intro) ?_ ?_)
    · intro i0 t u0 hx0 hP0
      have htk := kid_ok (List.mem_of_getElem? hx0) hdp hok hl
      refine ⟨_, _, (dg_name 3 nd), ?_⟩
      walk_at "env"
      refine ws_cons (ws_extendL 2 rfl (zs := (fnd w t).map .int) (by cases t with
          | leaf rs => exact (eo_meth G_Tree_find_leaf (hr.mono (by decide)) (ed_var 3 rfl) (ad_cons (ed_var 1 rfl) ad_nil) (.mk rs w htk.2.2))
          | node h2 l2 r2 => exact (eo_meth G_Tree_find_n2 (hr.mono (by decide)) (ed_var 3 rfl) (ad_cons (ed_var 1 rfl) ad_nil) (.mk h2 l2 r2 w htk.1 htk.2.1 htk.2.2))) (by have h1 := fl_len w hok i0; have h2 := fnd_len w htk.2.1; simp only [List.length_map]; rw [sizeLine_eq]; omega) ?_ (fun h => ps_expr (pe_bm PySem.F.plainAttrs_list PySem.F.slot_list_extend PySem.F.type_list_extend mt_extend (pv 2) h)))
      walk_at "env"
      refine ws_nil ?_
      refine ⟨?_, True.intro⟩
      rw [List.take_add_one, hx0]
      simp only [Option.toList, List.flatMap_append, List.map_append, List.flatMap_cons, List.flatMap_nil, List.append_nil]
      rfl
    · intro u0 hP0
      walk_at "env"
      rw [show [l, r].take [l, r].length = [l, r] from rfl]
      refine ws_share 2 rfl ?_
      walk_at "env"
      refine ws_cons (ws_retE (EO.eq (eo_callB (id := "sorted") (by rfl) B.«sorted» bb_sorted (ad_cons (ed_var 2 rfl) ad_nil) bo_sortedI) ?_) rfl)
      unfold fnd; rw [if_pos hh]; simp only [List.flatMap_cons, List.flatMap_nil, List.append_nil]
abbrev s_LayerIndex_init : Stmt := inClass (top 23) 0
theorem sc_LayerIndex_init : FnScope ["self"] ["self"] (defScope s_LayerIndex_init) := ⟨rfl, rfl, rfl, by decide +kernel, rfl, by decide +kernel, by decide +kernel⟩
theorem ok_LayerIndex_init {f : Addr} {fd : FuncData} (F : Fun K "__init__" "LayerIndex.__init__" s_LayerIndex_init f fd) (B : Bt mg) (KC : Kt K mg) (KL : Lt K mg) (XF : Xt K mg) (G_Tree_init_d3 : FnI P w K mg base "Tree" 11 R_Tree_init_d3) (G_Tree_init_d3 : FnI P w K mg base "Tree" 11 R_Tree_init_d3) :
    FnOk P w K mg base CX0 13 f fd ["self"] (spIL K "LayerIndex" R_LayerIndex_init) := by
  refine fn_okIL (k := 12) F sc_LayerIndex_init (fun a ds Ψ h => by cases h; rfl) fun a0 ds Ψ hR cdv A outer s H E hr => ?_
  have nd := sc_LayerIndex_init.nd
  have hu := hr.units
  rcases hR with ⟨⟩
  walk_at "en"
  refine ws_cons (ws_setFO 0 KL.«LayerIndex» rfl eo_dk fun q1 => ?_)
  simp only [List.cons_append, List.nil_append]
  walk_at "env"
  refine ws_cons (ws_setFO 0 KL.«LayerIndex» rfl eo_dk fun q2 => ?_)
  simp only [List.cons_append, List.nil_append]
  walk_at "env"
  refine ws_cons (ws_setFO 0 KL.«LayerIndex» rfl eo_dk fun q3 => ?_)
  simp only [List.cons_append, List.nil_append]
  walk_at "env"
  refine ws_cons (ws_setFC 0 KL.«LayerIndex» rfl (ED.eq (ed_own (eo_make G_Tree_init_d3 (hr.mono (by decide)) (by rfl) (ad_cons (ed_lst (eo_lst ad_nil)) ad_nil) (by exact .mk _ [] (.lst _) (by simp)))) (show _ = trD (build 3 []) by rfl)) ?_)
  simp only [List.cons_append, List.nil_append]
  walk_at "env"
  refine ws_nil ?_
  refine ⟨_, _, _, rfl, rfl, ?_⟩
  exact ⟨_, _, _, rfl⟩
abbrev s_LayerIndex_put_in : Stmt := inClass (top 23) 1
theorem sc_LayerIndex_put_in : FnScope ["self", "number", "box"] ["self", "number", "box"] (defScope s_LayerIndex_put_in) := ⟨rfl, rfl, rfl, by decide +kernel, rfl, by decide +kernel, by decide +kernel⟩
theorem ok_LayerIndex_put_in {f : Addr} {fd : FuncData} (F : Fun K "put_in" "LayerIndex.put_in" s_LayerIndex_put_in f fd) (B : Bt mg) (KC : Kt K mg) (KL : Lt K mg) (XF : Xt K mg)  :
    FnOk P w K mg base CX0 1 f fd ["self", "number", "box"] (spL K R_LayerIndex_put_in) := by
  refine fn_okL (k := 0) F sc_LayerIndex_put_in (fun a cs ds Ψ h => by cases h <;> rfl) fun a0 cs0 ds Ψ hR cdv A outer s H E hr => ?_
  have nd := sc_LayerIndex_put_in.nd
  have hu := hr.units
  rcases hR with ⟨p, q, r, I, n, b, hn, hl, hbl, hll⟩
  walk_at "en"
  unfold ixCs
  refine ws_cons (ws_dputI 0 1 (k0 := .inl n) hu rfl rfl (ed_fldC 0 0 KL.«LayerIndex» rfl (List.mem_iff_getElem?.mpr ⟨0, rfl⟩) (ed_varX 0 rfl)) (ed_var 1 rfl) (ed_var 2 rfl) (fun z => by rw [mem_nx, hn] at z; cases z) (by rw [List.length_map, sizeLine_eq]; omega) ?_)
  walk_at "env"
  rw [show (I.bx.map kNx ++ [Sum.inl n] : List Key) = (I.bx ++ [(n, b)]).map kNx by rw [List.map_append]; rfl, show I.bx.map bEx ++ [b.e] = (I.bx ++ [(n, b)]).map bEx by rw [List.map_append]; rfl]
  refine ws_cons (ws_if (td_show 0 (ixO (⟨I.bx ++ [(n, b)], I.it, I.lt⟩ : IxS)) rfl (fun _ _ v h r => ix_show (I := (⟨I.bx ++ [(n, b)], I.it, I.lt⟩ : IxS)) v h r) (td_cmp (ed_var 1 rfl) (ed_fld 1 KL.«LayerIndex» (ed_var 0 rfl)) (c2_notInDk hu (k0 := .inl n) rfl) (by rfl))) (fun hc1 => ?_) (fun hc1 => ?_))
  · skip
    have hq9 : hasN I.it n = false := by rw [has_nx] at hc1; simpa using hc1
    refine ws_cons (ws_dputI 0 3 (k0 := .inl n) hu rfl rfl (ed_fldC 0 2 KL.«LayerIndex» rfl (List.mem_iff_getElem?.mpr ⟨0, rfl⟩) (ed_varX 0 rfl)) (ed_var 1 rfl) (ed_var 2 rfl) (fun z => by rw [mem_nx, hl] at z; cases z) (by rw [List.length_map, sizeLine_eq]; omega) ?_)
    walk_at "env"
    refine ws_nil ?_
    refine ws_nil ?_
    refine Or.inr ⟨_, _, _, rfl, rfl, ?_⟩
    refine ⟨?_, by first | rfl | trivial⟩
    unfold IxS.put
    first
      | (rw [if_neg (by rw [hq9]; decide)]; simp only [List.map_append]; rfl)
      | (rw [if_pos hq9])
  · skip
    have hq9 : hasN I.it n = true := by rw [has_nx] at hc1; simpa using hc1
    refine ws_nil ?_
    refine ws_nil ?_
    refine Or.inr ⟨_, _, _, rfl, rfl, ?_⟩
    refine ⟨?_, by first | rfl | trivial⟩
    unfold IxS.put
    first
      | (rw [if_neg (by rw [hq9]; decide)]; simp only [List.map_append]; rfl)
      | (rw [if_pos hq9])
abbrev s_LayerIndex_take_out : Stmt := inClass (top 23) 2
theorem sc_LayerIndex_take_out : FnScope ["self", "number"] ["self", "number"] (defScope s_LayerIndex_take_out) := ⟨rfl, rfl, rfl, by decide +kernel, rfl, by decide +kernel, by decide +kernel⟩
theorem ok_LayerIndex_take_out {f : Addr} {fd : FuncData} (F : Fun K "take_out" "LayerIndex.take_out" s_LayerIndex_take_out f fd) (B : Bt mg) (KC : Kt K mg) (KL : Lt K mg) (XF : Xt K mg)  :
    FnOk P w K mg base CX0 1 f fd ["self", "number"] (spL K R_LayerIndex_take_out) := by
  refine fn_okL (k := 0) F sc_LayerIndex_take_out (fun a cs ds Ψ h => by cases h <;> rfl) fun a0 cs0 ds Ψ hR cdv A outer s H E hr => ?_
  have nd := sc_LayerIndex_take_out.nd
  have hu := hr.units
  rcases hR with ⟨p, q, r, I, n, hn⟩
  walk_at "en"
  unfold ixCs
  refine ws_cons (ws_ddelI 0 1 (k0 := .inl n) rfl rfl (ed_fldC 0 0 KL.«LayerIndex» rfl (List.mem_iff_getElem?.mpr ⟨0, rfl⟩) (ed_varX 0 rfl)) (ed_var 1 rfl) (mem_nx.mpr hn) ?_)
  walk_at "env"
  rw [delK_nx, delV_nx]
  refine ws_cons (ws_if (td_show 0 (ixO (⟨delR I.bx n, I.it, I.lt⟩ : IxS)) rfl (fun _ _ v h r => ix_show (I := (⟨delR I.bx n, I.it, I.lt⟩ : IxS)) v h r) (td_cmp (ed_var 1 rfl) (ed_fld 2 KL.«LayerIndex» (ed_var 0 rfl)) (c2_inDk hu (k0 := .inl n) rfl) (by rfl))) (fun hc1 => ?_) (fun hc1 => ?_))
  · skip
    have hq9 : hasN I.lt n = true := by rw [has_nx] at hc1; exact hc1
    refine ws_cons (ws_ddelI 0 3 (k0 := .inl n) rfl rfl (ed_fldC 0 2 KL.«LayerIndex» rfl (List.mem_iff_getElem?.mpr ⟨0, rfl⟩) (ed_varX 0 rfl)) (ed_var 1 rfl) (mem_nx.mpr hq9) ?_)
    walk_at "env"
    rw [delK_nx, delV_nx]
    refine ws_nil ?_
    refine ws_nil ?_
    refine Or.inr ⟨_, _, _, rfl, rfl, ?_⟩
    refine ⟨?_, by first | rfl | trivial⟩
    unfold IxS.out
    first
      | rfl
      | (rw [delR_no hq9])
  · skip
    have hq9 : hasN I.lt n = false := by rw [has_nx] at hc1; exact hc1
    refine ws_nil ?_
    refine ws_nil ?_
    refine Or.inr ⟨_, _, _, rfl, rfl, ?_⟩
    refine ⟨?_, by first | rfl | trivial⟩
    unfold IxS.out
    first
      | rfl
      | (rw [delR_no hq9])
abbrev s_LayerIndex_find : Stmt := inClass (top 23) 3
theorem sc_LayerIndex_find : FnScope ["self", "window", "found", "number", "box"] ["self", "window"] (defScope s_LayerIndex_find) := ⟨rfl, rfl, rfl, by decide +kernel, rfl, by decide +kernel, by decide +kernel⟩
theorem ok_LayerIndex_find {f : Addr} {fd : FuncData} (F : Fun K "find" "LayerIndex.find" s_LayerIndex_find f fd) (B : Bt mg) (KC : Kt K mg) (KL : Lt K mg) (XF : Xt K mg) (G_LayerIndex_refresh : FnML P w K mg base "LayerIndex" "_refresh" 13 R_LayerIndex_refresh) (G_Tree_find_leaf : FnMO P w K mg base "Tree" "find" 3 R_Tree_find_leaf) (G_Tree_find_n3 : FnMO P w K mg base "Tree" "find" 6 R_Tree_find_n3) (G_overlap : Fn P w K mg base "overlap" 2 R_overlap) :
    FnOk P w K mg base CX0 14 f fd ["self", "window"] (spL K R_LayerIndex_find) := by
  refine fn_okL (k := 13) F sc_LayerIndex_find (fun a cs ds Ψ h => by cases h <;> rfl) fun a0 cs0 ds Ψ hR cdv A outer s H E hr => ?_
  have nd := sc_LayerIndex_find.nd
  have hu := hr.units
  rcases hR with ⟨p, q, r, I, fb, ok, w, hb, hi, hl⟩
  walk_at "en"
  refine ws_cons (ws_exprP (ep_meth0W 0 G_LayerIndex_refresh (hr.mono (by decide)) rfl (List.mem_iff_getElem?.mpr ⟨0, rfl⟩) (ed_varX 0 rfl) (.mk a0 p q r I (by omega) ok.bn)) ?_)
  rintro _ _ ⟨_, ⟨p2, q2, r2, rfl, rfl⟩, rfl⟩
  walk_at "env"
  obtain ⟨J, hJ⟩ : ∃ J, J = I.fresh := ⟨_, rfl⟩
  rw [← hJ]
  have hJi : J.it.length ≤ 41 := by rw [hJ]; unfold IxS.fresh IxS.new; split <;> assumption
  have hJl : J.lt.length ≤ 41 := by rw [hJ]; unfold IxS.fresh IxS.new; split <;> first | assumption | simp
  refine ws_cons (ws_setFilter2S 0 (ixO J) rfl (fun _ _ v h r => ix_show (I := J) v h r) 2 [("number", 3)] (fnd w (build 3 J.it)) (D.int) (fun z => hasN J.bx z) (D.int) rfl nd (blkOk_by (N := ["self", "window", "found", "number", "box"]) (sc := defScope s_LayerIndex_find) (by decide +kernel)) (id_list (ed_lst (EO.eq (c := .lst ((fnd w (build 3 J.it)).map .int)) (by cases hT : build 3 J.it <;> first | exact (eo_meth G_Tree_find_leaf (hr.mono (by decide)) (ED.eq (d' := _) (ed_fld 3 KL.«LayerIndex» (ed_var 0 rfl)) (by rw [hT]; try rfl)) (ad_cons (ed_var 1 rfl) ad_nil) (.mk _ w (tr_leaf hT (by omega)))) | exact (eo_meth G_Tree_find_n3 (hr.mono (by decide)) (ED.eq (d' := _) (ed_fld 3 KL.«LayerIndex» (ed_var 0 rfl)) (by rw [hT]; try rfl)) (ad_cons (ed_var 1 rfl) ad_nil) (.mk _ _ _ w (tr_node hT (by omega)).1 (tr_node hT (by omega)).2.1 (tr_node hT (by omega)).2.2))) rfl))) (rfl) (fun z hxm => turn_if (fun hp1 => ⟨_, by rfl, fun _ _ _ _ _ => ⟨(dg_name 3 nd), tds_one (TD.eq (TD.eq (td_cmp (ed_var 3 rfl) (ed_fld 0 KL.«LayerIndex» (ed_var 0 rfl)) (c2_inDk hu (k0 := .inl z) rfl) (by rfl)) (has_nx _ _)) hp1), (ed_var 3 rfl)⟩⟩) (fun hp1 => ⟨_, by rfl, fun _ _ _ _ _ => ⟨(dg_name 3 nd), tds_one (TD.eq (TD.eq (td_cmp (ed_var 3 rfl) (ed_fld 0 KL.«LayerIndex» (ed_var 0 rfl)) (c2_inDk hu (k0 := .inl z) rfl) (by rfl)) (has_nx _ _)) hp1)⟩⟩)) (by have h9 := fnd_len w (build_ok 3 J.it); have h8 := (build_perm 3 J.it).length_eq; rw [sizeLine_eq]; omega) ?_)
  walk_at "env"
  refine ws_cons (ws_extendL 2 rfl (zs := (J.lt.filter fun e => hitB e.2 w).map fun e => D.int e.1) (eo_show 0 _ rfl (fun _ _ v h r => ix_show (I := J) v h r) (EO.eq (eo_lcItKF 0 2 [("number", 3), ("box", 4)] rfl nd (blkOk_by (N := ["self", "window", "found", "number", "box"]) (sc := defScope s_LayerIndex_find) (by decide +kernel)) KL.«LayerIndex» rfl rfl rfl (J.lt.map fun e => if hitB e.2 w = true then some (D.int e.1) else none) (by rw [List.length_map, List.length_map]) (fun n d y h1 h2 => by
    rw [itK_nx, List.getElem?_map] at h1
    rw [List.getElem?_map] at h2
    cases he : J.lt[n]? with
    | none => rw [he] at h1; cases h1
    | some e =>
      rw [he] at h1 h2
      cases h1; cases h2
      exact turn_if (fun hp => ⟨_, by rfl, fun _ _ _ _ _ => ⟨dg_tup rfl (dgs_cons (dg_name 3 nd) (dgs_cons (dg_name 4 nd) dgs_nil)), tds_one (TD.eq (TD.eq (td_cmp (ed_call G_overlap (hr.mono (by decide)) (by rfl) (ad_cons (ed_var 4 rfl) (ad_cons (ed_var 1 rfl) ad_nil)) (by walk_at "mk")) ed_non (by walk_at "c2")) (ov_hit e.2 w)) hp), ed_var 3 rfl⟩⟩) (fun hp => ⟨_, by rfl, fun _ _ _ _ _ => ⟨dg_tup rfl (dgs_cons (dg_name 3 nd) (dgs_cons (dg_name 4 nd) dgs_nil)), tds_one (TD.eq (TD.eq (td_cmp (ed_call G_overlap (hr.mono (by decide)) (by rfl) (ad_cons (ed_var 4 rfl) (ad_cons (ed_var 1 rfl) ad_nil)) (by walk_at "mk")) ed_non (by walk_at "c2")) (ov_hit e.2 w)) hp)⟩⟩)) (by rw [List.length_map, sizeLine_eq]; omega)) (by rw [filterMap_if]))) (by have h9 := fnd_len w (build_ok 3 J.it); have h8 := (build_perm 3 J.it).length_eq; have h7 := List.length_filter_le (fun z => hasN J.bx z) (fnd w (build 3 J.it)); have h6 := List.length_filter_le (fun e : TRow => hitB e.2 w) J.lt; simp only [List.length_map]; rw [sizeLine_eq]; omega) ?_ (fun h => ps_expr (pe_bm PySem.F.plainAttrs_list PySem.F.slot_list_extend PySem.F.type_list_extend mt_extend (pv 2) h)))
  walk_at "env"
  refine ws_share 2 rfl ?_
  walk_at "env"
  refine ws_cons (ws_retC 0 (ed_lst (eo_callB (id := "sorted") (by rfl) B.«sorted» bb_sorted (ad_cons (ED.eq (ed_var 2 rfl) (show _ = D.lst ((((fnd w (build 3 J.it)).filter fun z => hasN J.bx z) ++ (J.lt.filter fun e => hitB e.2 w).map (·.1)).map .int) by rw [List.map_append, List.map_map]; rfl)) ad_nil) bo_sortedI)) rfl (Or.inl ⟨_, _, rfl, ?_⟩))
  exact ⟨p2, q2, r2, by rw [hJ], by rw [ix_found (hJ ▸ ok.fresh), hJ, fresh_bx]⟩
abbrev s_LayerIndex_refresh : Stmt := inClass (top 23) 4
theorem sc_LayerIndex_refresh : FnScope ["self", "gone", "number"] ["self"] (defScope s_LayerIndex_refresh) := ⟨rfl, rfl, rfl, by decide +kernel, rfl, by decide +kernel, by decide +kernel⟩
theorem ok_LayerIndex_refresh {f : Addr} {fd : FuncData} (F : Fun K "_refresh" "LayerIndex._refresh" s_LayerIndex_refresh f fd) (B : Bt mg) (KC : Kt K mg) (KL : Lt K mg) (XF : Xt K mg) (G_Tree_init_d3 : FnI P w K mg base "Tree" 11 R_Tree_init_d3) (G_Tree_init_d3 : FnI P w K mg base "Tree" 11 R_Tree_init_d3) :
    FnOk P w K mg base CX0 13 f fd ["self"] (spL K R_LayerIndex_refresh) := by
  refine fn_okL (k := 12) F sc_LayerIndex_refresh (fun a cs ds Ψ h => by cases h <;> rfl) fun a0 cs0 ds Ψ hR cdv A outer s H E hr => ?_
  have nd := sc_LayerIndex_refresh.nd
  have hu := hr.units
  rcases hR with ⟨p, q, r, I, hb, ndb⟩
  walk_at "en"
  refine ws_cons (ws_set 1 nd (ED.eq (ed_show 0 (ixO I) rfl (fun _ _ v h r => ix_show v h r) (ed_bin (ed_bin (ed_callB (id := "len") (by rfl) B.«len» bb_len (ad_cons (ed_fld 1 KL.«LayerIndex» (ed_var 0 rfl)) ad_nil) (bc_lenDk)) (ed_callB (id := "len") (by rfl) B.«len» bb_len (ad_cons (ed_fld 2 KL.«LayerIndex» (ed_var 0 rfl)) ad_nil) (bc_lenDk)) (by walk_at "b2")) (ed_callB (id := "len") (by rfl) B.«len» bb_len (ad_cons (ed_fld 0 KL.«LayerIndex» (ed_var 0 rfl)) ad_nil) (bc_lenDk)) (by walk_at "b2"))) (show _ = D.int ((I.it.length : Int) + (I.lt.length : Int) - (I.bx.length : Int)) by simp)) ?_)
  walk_at "env"
  refine ws_cons (ws_if (td_show 0 (ixO I) rfl (fun _ _ v h r => ix_show (I := I) v h r) (td_cmp (ed_bin (ed_var 1 rfl) (ed_callB (id := "len") (by rfl) B.«len» bb_len (ad_cons (ed_fld 2 KL.«LayerIndex» (ed_var 0 rfl)) ad_nil) (bc_lenDk)) (by walk_at "b2")) (ed_bin (ed_const KC.«SLACK» (by rfl)) (ed_bin (ed_callB (id := "len") (by rfl) B.«len» bb_len (ad_cons (ed_fld 1 KL.«LayerIndex» (ed_var 0 rfl)) ad_nil) (bc_lenDk)) (ed_const KC.«SLACK» (by rfl)) (by walk_at "b2")) (by walk_at "b2")) (by walk_at "c2"))) (fun hc1 => ?_) (fun hc1 => ?_))
  · skip
    have hfar : I.far = true := by unfold IxS.far; simpa using hc1
    unfold ixCs
    refine ws_cons (ws_setFCU 0 3 KL.«LayerIndex» rfl (ED.eq (ed_own (eo_make G_Tree_init_d3 (hr.mono (by decide)) (by rfl) (ad_cons (ED.eq (ed_lst (eo_listItemsI 0 1 rfl (by rfl) B.«list» rfl rfl (by rw [List.length_map, List.length_map]) (ed_fldC 0 0 KL.«LayerIndex» rfl (List.mem_iff_getElem?.mpr ⟨0, rfl⟩) (ed_varX 0 rfl)))) (show _ = D.lst (I.bx.map rwE) by rw [itK_nx])) ad_nil) (by exact .mk _ I.bx (.lst _) (by omega)))) (show _ = trD (build 3 I.bx) from (trD_eq _).symm)) ?_)
    walk_at "env"
    refine ws_cons (ws_setFOU 0 1 KL.«LayerIndex» rfl (EO.eq (c' := .dk (I.bx.map kNx) (I.bx.map tTx)) (eo_showDk 0 _ rfl (fun _ _ v h r => ix_showT (I := I) v h r) (eo_dcKF 0 0 [("number", 2)] rfl nd (blkOk_by (N := ["self", "gone", "number"]) (sc := defScope s_LayerIndex_refresh) (by decide +kernel)) KL.«LayerIndex» rfl rfl rfl (I.bx.map fun e => some ((kNx e, D.bl true) : Key × D)) (by rw [List.length_map, List.length_map]) (by rw [(ys_nx I.bx).1]; exact kNx_nd ndb) (fun n d y h1 h2 => by
      rw [List.map_map, List.getElem?_map] at h1
      rw [List.getElem?_map] at h2
      cases he : I.bx[n]? with
      | none => rw [he] at h1; cases h1
      | some e =>
        rw [he] at h1 h2
        cases h1; cases h2
        exact ⟨_, by rfl, fun _ _ _ _ _ => ⟨dg_name 2 nd, tds_nil, ed_var 2 rfl, ed_bl⟩⟩) (by rw [List.length_map, sizeLine_eq]; omega)) (by rw [(ys_nx I.bx).2]; exact flt_tT _)) (by rw [(ys_nx I.bx).1, (ys_nx I.bx).2])) fun q2 => ?_)
    walk_at "env"
    refine ws_cons (ws_setFOU 0 2 KL.«LayerIndex» rfl eo_dk fun r2 => ?_)
    walk_at "env"
    refine ws_pick 0 (cs' := ixCs a0 p q2 r2 I.new) rfl (by unfold ixCs IxS.new; simp) (fun nd => by unfold ixCs; simp at nd ⊢; simp [nd]) ?_
    simp only [List.set_cons_zero]
    refine ws_nil ?_
    refine ws_nil ?_
    refine Or.inr ⟨_, _, _, rfl, rfl, ?_⟩
    first
      | (refine ⟨p, q2, r2, ?_, by first | rfl | trivial⟩; unfold IxS.fresh; rw [if_pos hfar]; try rfl)
      | (refine ⟨p, q, r, ?_, by first | rfl | trivial⟩; unfold IxS.fresh; rw [if_neg (by rw [hfar]; decide)])
  · skip
    have hfar : I.far = false := by unfold IxS.far; simpa using hc1
    refine ws_nil ?_
    refine ws_nil ?_
    refine Or.inr ⟨_, _, _, rfl, rfl, ?_⟩
    first
      | (refine ⟨p, q2, r2, ?_, by first | rfl | trivial⟩; unfold IxS.fresh; rw [if_pos hfar]; try rfl)
      | (refine ⟨p, q, r, ?_, by first | rfl | trivial⟩; unfold IxS.fresh; rw [if_neg (by rw [hfar]; decide)])
abbrev s_Store_init : Stmt := inClass (top 24) 0
theorem sc_Store_init : FnScope ["self", "layer"] ["self"] (defScope s_Store_init) := ⟨rfl, rfl, rfl, by decide +kernel, rfl, by decide +kernel, by decide +kernel⟩
theorem ok_Store_init {f : Addr} {fd : FuncData} (F : Fun K "__init__" "Store.__init__" s_Store_init f fd) (B : Bt mg) (KC : Kt K mg) (KL : Lt K mg) (XF : Xt K mg) (G_LayerIndex_init : FnIL P w K mg base "LayerIndex" 13 R_LayerIndex_init) :
    FnOk P w K mg base CX0 15 f fd ["self"] (spIL K "Store" R_Store_init) := by
  refine fn_okIL (k := 14) F sc_Store_init (fun a ds Ψ h => by cases h; rfl) fun a0 ds Ψ hR cdv A outer s H E hr => ?_
  have nd := sc_Store_init.nd
  have hu := hr.units
  rcases hR with ⟨⟩
  walk_at "en"
  refine ws_cons (ws_setFO 0 KL.«Store» rfl (eo_lst ad_nil) fun q1 => ?_)
  simp only [List.cons_append, List.nil_append]
  walk_at "env"
  refine ws_cons (ws_setFO 0 KL.«Store» rfl eo_dk fun q2 => ?_)
  simp only [List.cons_append, List.nil_append]
  walk_at "env"
  refine ws_cons (ws_setFEC 0 KL.«Store» rfl (ec_dcC [("layer", 1)] layN D.str kLx (fun _ a cs => ∃ p q r, cs = ixCs a p q r ⟨[], [], []⟩) rfl nd (blkOk_by (N := ["self", "layer"]) (sc := defScope s_Store_init) (by decide +kernel)) (id_seq (.tup _) (ed_const KC.«LAYERS» (by rfl))) (by rfl) kLx_nd (fun l hl => ⟨_, by rfl, fun _ _ _ _ _ => ⟨dg_name 1 nd, ed_var 1 rfl, ec_make0 G_LayerIndex_init (hr.mono (by decide)) (by rfl) (fun a => .mk a)⟩⟩) (by decide)) (fun q3 cs2 hw => ?_))
  obtain ⟨g, hg, hgp, rfl⟩ := hw
  obtain ⟨ad, had, hfl⟩ := st_mk a0 a0 a0 a0 a0 a0 g (by rw [hg]; exact layN_nd) hgp
  rw [had, hfl, hg]
  simp only [List.cons_append, List.nil_append]
  walk_at "env"
  refine ws_cons (ws_setFO 0 KL.«Store» rfl (eo_lst ad_nil) fun q4 => ?_)
  simp only [List.cons_append, List.nil_append]
  walk_at "env"
  refine ws_cons (ws_setFO 0 KL.«Store» rfl (eo_lst ad_nil) fun q5 => ?_)
  simp only [List.cons_append, List.nil_append]
  walk_at "env"
  refine ws_perm 0 (cs' := stCs a0 ⟨q1, q2, q3, q4, q5, ad⟩ st0) rfl ?_ ?_
  · exact .cons _ (.cons _ (.cons _ (.cons _ (by rw [List.append_assoc]; exact List.perm_append_comm))))
  walk_at "env"
  refine ws_nil ?_
  refine ⟨_, _, _, rfl, rfl, ?_⟩
  exact ⟨_, rfl⟩
abbrev s_Store_len : Stmt := inClass (top 24) 1
theorem sc_Store_len : FnScope ["self"] ["self"] (defScope s_Store_len) := ⟨rfl, rfl, rfl, by decide +kernel, rfl, by decide +kernel, by decide +kernel⟩
theorem ok_Store_len {f : Addr} {fd : FuncData} (F : Fun K "__len__" "Store.__len__" s_Store_len f fd) (B : Bt mg) (KC : Kt K mg) (KL : Lt K mg) (XF : Xt K mg)  :
    FnOk P w K mg base CX0 1 f fd ["self"] (spR K R_Store_len) := by
  refine fn_ok (k := 0) F sc_Store_len (fun ds d h => by cases h <;> rfl) fun ds d hR cdv A outer s H E hr => ?_
  have nd := sc_Store_len.nd
  have hu := hr.units
  rcases hR with ⟨S⟩
  unfold stO
  walk_at "en"
  refine ws_cons (ws_ret (ED.eq (ed_callB (id := "len") (by rfl) B.«len» bb_len (ad_cons (ed_fld 1 KL.«Store» (ed_var 0 rfl)) ad_nil) (bc_lenDk)) ?_) (Or.inl rfl))
  rw [List.length_map]
abbrev s_Store_add : Stmt := inClass (top 24) 2
theorem sc_Store_add : FnScope ["self", "layer", "box", "number"] ["self", "layer", "box"] (defScope s_Store_add) := ⟨rfl, rfl, rfl, by decide +kernel, rfl, by decide +kernel, by decide +kernel⟩
theorem ok_Store_add {f : Addr} {fd : FuncData} (F : Fun K "add" "Store.add" s_Store_add f fd) (B : Bt mg) (KC : Kt K mg) (KL : Lt K mg) (XF : Xt K mg) (G_Store_change : FnML P w K mg base "Store" "_change" 4 R_Store_change) :
    FnOk P w K mg base CX0 5 f fd ["self", "layer", "box"] (spL K R_Store_add) := by
  refine fn_okL (k := 4) F sc_Store_add (fun a cs ds Ψ h => by cases h <;> rfl) fun a0 cs0 ds Ψ hR cdv A outer s H E hr => ?_
  have nd := sc_Store_add.nd
  have hu := hr.units
  rcases hR with ⟨A, S, ok, l, b, hlm, hf, hdn⟩
  have ok2 := ok.numb (b := b) hlm hf
  have hn2 := nbAt_new S.nb (l, b)
  have hs2 := ok.new9
  walk_at "en"
  refine ws_cons (ws_set 3 nd (ED.eq (ed_lenA (cell_at 0 rfl st_m1) (by rfl) B.«len» (ed_fldC 0 0 KL.«Store» rfl st_m0 (ed_varX 0 rfl))) (show _ = D.int (S.nb.length : Int) by rw [List.length_map])) ?_)
  walk_at "env"
  refine ws_cons (ws_appendI 0 1 rfl rfl (ed_fldC 0 0 KL.«Store» rfl st_m0 (ed_varX 0 rfl)) (ed_tup (ad_cons (ed_var 1 rfl) (ad_cons (ed_var 2 rfl) ad_nil))) (by rw [List.length_map, sizeLine_eq]; omega) ?_ (fun h h2 => ps_expr (pe_bm PySem.F.plainAttrs_list PySem.F.slot_list_append PySem.F.type_list_append mt_append h h2)))
  walk_at "env"
  refine ws_to 0 (cs' := stCs a0 A (S.numb l b)) rfl (by unfold stCs stH StS.numb; simp [shE, stIx]) ?_
  walk_at "env"
  refine ws_cons (ws_exprP (ep_methW 0 G_Store_change (hr.mono (by decide)) rfl st_m0 (ed_varX 0 rfl) (ad_cons (ed_const KC.«ADDED» (by rfl)) (ad_cons (ed_var 3 rfl) ad_nil)) (.mk a0 A (S.numb l b) ok2 true (S.nb.length : Int) l b hdn ⟨hn2, hs2⟩)) ?_)
  rintro _ _ ⟨_, ⟨A2, rfl, rfl⟩, rfl⟩
  walk_at "env"
  refine ws_cons (ws_retC 0 (ed_var 3 rfl) rfl (Or.inl ⟨_, _, rfl, ?_⟩))
  exact ⟨_, rfl, by first | rfl | trivial⟩
abbrev s_Store_remove : Stmt := inClass (top 24) 3
theorem sc_Store_remove : FnScope ["self", "number"] ["self", "number"] (defScope s_Store_remove) := ⟨rfl, rfl, rfl, by decide +kernel, rfl, by decide +kernel, by decide +kernel⟩
theorem ok_Store_remove {f : Addr} {fd : FuncData} (F : Fun K "remove" "Store.remove" s_Store_remove f fd) (B : Bt mg) (KC : Kt K mg) (KL : Lt K mg) (XF : Xt K mg) (G_Store_change : FnML P w K mg base "Store" "_change" 4 R_Store_change) :
    FnOk P w K mg base CX0 5 f fd ["self", "number"] (spL K R_Store_remove) := by
  refine fn_okL (k := 4) F sc_Store_remove (fun a cs ds Ψ h => by cases h <;> rfl) fun a0 cs0 ds Ψ hR cdv A outer s H E hr => ?_
  have nd := sc_Store_remove.nd
  have hu := hr.units
  rcases hR with ⟨A, S, ok, n, l, b, hn, hdn⟩
  have hk9 := sh_key hn
  walk_at "en"
  refine ws_cons (ws_if (td_show 0 (stO S) rfl (fun _ _ v h r => st_show (S := S) v h r) (TD.eq (td_cmp (ed_var 1 rfl) (ed_fld 1 KL.«Store» (ed_var 0 rfl)) (c2_notInDk hu (k0 := .inl n) rfl) (by rfl)) (by rw [has_sx]))) (fun hc1 => ?_) (fun hc1 => ?_))
  · skip
    exfalso; simp [hk9] at hc1
  · skip
    clear hc1
    refine ws_nil ?_
    refine ws_cons (ws_exprP (ep_methW 0 G_Store_change (hr.mono (by decide)) rfl st_m0 (ed_varX 0 rfl) (ad_cons (ed_const KC.«REMOVED» (by rfl)) (ad_cons (ed_var 1 rfl) ad_nil)) (.mk a0 A S ok false n l b hdn hn)) ?_)
    rintro _ _ ⟨_, ⟨A2, rfl, rfl⟩, rfl⟩
    walk_at "env"
    refine ws_nil ?_
    refine Or.inr ⟨_, _, _, rfl, rfl, ?_⟩
    exact ⟨_, rfl, by first | rfl | trivial⟩
abbrev s_Store_shape : Stmt := inClass (top 24) 4
theorem sc_Store_shape : FnScope ["self", "number"] ["self", "number"] (defScope s_Store_shape) := ⟨rfl, rfl, rfl, by decide +kernel, rfl, by decide +kernel, by decide +kernel⟩
theorem ok_Store_shape {f : Addr} {fd : FuncData} (F : Fun K "shape" "Store.shape" s_Store_shape f fd) (B : Bt mg) (KC : Kt K mg) (KL : Lt K mg) (XF : Xt K mg)  :
    FnOk P w K mg base CX0 1 f fd ["self", "number"] (spR K R_Store_shape) := by
  refine fn_ok (k := 0) F sc_Store_shape (fun ds d h => by cases h <;> rfl) fun ds d hR cdv A outer s H E hr => ?_
  have nd := sc_Store_shape.nd
  have hu := hr.units
  rcases hR with ⟨S, ok, n, e, hn⟩
  have hk9 := sh_key hn
  unfold stO
  walk_at "en"
  refine ws_cons (ws_if (TD.eq (td_cmp (ed_var 1 rfl) (ed_fld 1 KL.«Store» (ed_var 0 rfl)) (c2_notInDk hu (k0 := .inl n) rfl) (by rfl)) (by rw [has_sx])) (fun hc1 => ?_) (fun hc1 => ?_))
  · skip
    exfalso; simp [hk9] at hc1
  · skip
    clear hc1
    refine ws_nil ?_
    refine ws_cons (ws_ret (ED.eq (ed_dix hu (ed_fld 1 KL.«Store» (ed_var 0 rfl)) (ed_var 1 rfl) (k0 := .inl n) (lookK_sx ok.sn hn)) ?_) (Or.inl rfl))
    rfl
abbrev s_Store_find : Stmt := inClass (top 24) 5
theorem sc_Store_find : FnScope ["self", "layer", "window"] ["self", "layer", "window"] (defScope s_Store_find) := ⟨rfl, rfl, rfl, by decide +kernel, rfl, by decide +kernel, by decide +kernel⟩
theorem ok_Store_find {f : Addr} {fd : FuncData} (F : Fun K "find" "Store.find" s_Store_find f fd) (B : Bt mg) (KC : Kt K mg) (KL : Lt K mg) (XF : Xt K mg) (G_LayerIndex_find : FnML P w K mg base "LayerIndex" "find" 14 R_LayerIndex_find) :
    FnOk P w K mg base CX0 15 f fd ["self", "layer", "window"] (spL K R_Store_find) := by
  refine fn_okL (k := 14) F sc_Store_find (fun a cs ds Ψ h => by cases h <;> rfl) fun a0 cs0 ds Ψ hR cdv A outer s H E hr => ?_
  have nd := sc_Store_find.nd
  have hu := hr.units
  rcases hR with ⟨A, S, ok, l, w, hlm⟩
  walk_at "en"
  obtain ⟨R9, hR1, hR2⟩ := st_front a0 A S hlm
  refine ws_perm 0 rfl hR1 ?_
  walk_at "env"
  refine ws_cons (ws_retCP 0 (ep_back 0 (ep_meth 0 (cs := stLx (A.ad l) (S.ix l)) G_LayerIndex_find (hr.mono (by decide)) rfl st_mx (ed_dixI 0 hu rfl st_f3 (ed_fldC 0 2 KL.«Store» rfl st_f0 (ed_varX 0 rfl)) (ed_var 1 rfl) (k0 := .inr l) (lookK_lx (f := fun l => D.ad (A.ad l).1) hlm)) (ad_cons (ed_var 2 rfl) ad_nil) (.mk _ _ _ _ (S.ix l) _ (ok.ix l hlm) w (by have := ok.bxl hlm; omega) (by have := ok.itl hlm; omega) (by have := ok.ltl hlm; omega))) (Ψ' := fun d ρ' => ∃ A', ρ'[0]? = some (.ox (stCs a0 A' (S.at l (S.ix l).fresh)) (.ad a0)) ∧ d = .lst ((fndSx S.sh l w).map .int)) ?_) ?_)
  · rintro _ _ ⟨_, ⟨p2, q2, r2, rfl, rfl⟩, rfl⟩
    exact ⟨_, _, _, rfl, hR2 p2 q2 r2 _, _, rfl, by rw [ok.found hlm]⟩
  · rintro _ _ ⟨A2, h1, rfl⟩
    exact ⟨_, _, h1, Or.inl ⟨_, _, rfl, A2, rfl, rfl⟩⟩
abbrev s_Store_find_square : Stmt := inClass (top 24) 6
theorem sc_Store_find_square : FnScope ["self", "layer", "x", "y"] ["self", "layer", "x", "y"] (defScope s_Store_find_square) := ⟨rfl, rfl, rfl, by decide +kernel, rfl, by decide +kernel, by decide +kernel⟩
theorem ok_Store_find_square {f : Addr} {fd : FuncData} (F : Fun K "find_square" "Store.find_square" s_Store_find_square f fd) (B : Bt mg) (KC : Kt K mg) (KL : Lt K mg) (XF : Xt K mg) (G_Store_find : FnML P w K mg base "Store" "find" 15 R_Store_find) :
    FnOk P w K mg base CX0 16 f fd ["self", "layer", "x", "y"] (spL K R_Store_find_square) := by
  refine fn_okL (k := 15) F sc_Store_find_square (fun a cs ds Ψ h => by cases h <;> rfl) fun a0 cs0 ds Ψ hR cdv A outer s H E hr => ?_
  have nd := sc_Store_find_square.nd
  have hu := hr.units
  rcases hR with ⟨A, S, ok, l, px, py, hlm⟩
  walk_at "en"
  refine ws_cons (ws_retCP 0 (ep_methW 0 G_Store_find (hr.mono (by decide)) rfl st_m0 (ed_varX 0 rfl) (ad_cons (ed_var 1 rfl) (ad_cons (ED.eq (ed_tup (ad_cons (ed_var 2 rfl) (ad_cons (ed_var 3 rfl) (ad_cons (ed_bin (ed_var 2 rfl) ed_int (by walk_at "b2")) (ad_cons (ed_bin (ed_var 3 rfl) ed_int (by walk_at "b2")) ad_nil))))) (show _ = Bx.e ⟨px, py, px + 1, py + 1⟩ from rfl)) ad_nil)) (.mk a0 A S ok l _ hlm)) ?_)
  rintro _ _ ⟨_, ⟨A2, rfl, rfl⟩, rfl⟩
  exact ⟨_, _, rfl, Or.inl ⟨_, _, rfl, A2, rfl, rfl⟩⟩
abbrev s_Store_numbers : Stmt := inClass (top 24) 7
theorem sc_Store_numbers : FnScope ["self"] ["self"] (defScope s_Store_numbers) := ⟨rfl, rfl, rfl, by decide +kernel, rfl, by decide +kernel, by decide +kernel⟩
theorem ok_Store_numbers {f : Addr} {fd : FuncData} (F : Fun K "numbers" "Store.numbers" s_Store_numbers f fd) (B : Bt mg) (KC : Kt K mg) (KL : Lt K mg) (XF : Xt K mg)  :
    FnOk P w K mg base CX0 1 f fd ["self"] (spO K R_Store_numbers) := by
  refine fn_okO (k := 0) F sc_Store_numbers (fun ds d h => by cases h <;> rfl) fun ds d hR cdv A outer s H E hr => ?_
  have nd := sc_Store_numbers.nd
  have hu := hr.units
  rcases hR with ⟨S, hl9⟩
  unfold stO
  walk_at "en"
  refine ws_cons (ws_retE (EO.eq (eo_callB (id := "sorted") (by rfl) B.«sorted» bb_sorted (ad_cons (ED.eq (d' := .dk ((S.sh.map (·.1)).map Sum.inl) (S.sh.map dSx)) (ed_fld 1 KL.«Store» (ed_var 0 rfl)) (by rw [List.map_map]; rfl)) ad_nil) (bo_sortedDI rfl (by rw [List.length_map]; omega))) ?_) rfl)
  rfl
abbrev s_Store_mark : Stmt := inClass (top 24) 8
theorem sc_Store_mark : FnScope ["self"] ["self"] (defScope s_Store_mark) := ⟨rfl, rfl, rfl, by decide +kernel, rfl, by decide +kernel, by decide +kernel⟩
theorem ok_Store_mark {f : Addr} {fd : FuncData} (F : Fun K "mark" "Store.mark" s_Store_mark f fd) (B : Bt mg) (KC : Kt K mg) (KL : Lt K mg) (XF : Xt K mg)  :
    FnOk P w K mg base CX0 1 f fd ["self"] (spR K R_Store_mark) := by
  refine fn_ok (k := 0) F sc_Store_mark (fun ds d h => by cases h <;> rfl) fun ds d hR cdv A outer s H E hr => ?_
  have nd := sc_Store_mark.nd
  have hu := hr.units
  rcases hR with ⟨S⟩
  unfold stO
  walk_at "en"
  refine ws_cons (ws_ret (ED.eq (ed_callB (id := "len") (by rfl) B.«len» bb_len (ad_cons (ed_fld 3 KL.«Store» (ed_var 0 rfl)) ad_nil) (bc_lenL)) ?_) (Or.inl rfl))
  rw [List.length_map]
abbrev s_Store_undo : Stmt := inClass (top 24) 9
theorem sc_Store_undo : FnScope ["self", "kind", "number"] ["self"] (defScope s_Store_undo) := ⟨rfl, rfl, rfl, by decide +kernel, rfl, by decide +kernel, by decide +kernel⟩
theorem ok_Store_undo {f : Addr} {fd : FuncData} (F : Fun K "undo" "Store.undo" s_Store_undo f fd) (B : Bt mg) (KC : Kt K mg) (KL : Lt K mg) (XF : Xt K mg) (G_Store_put_in : FnML P w K mg base "Store" "_put_in" 2 R_Store_put_in) (G_Store_take_out : FnML P w K mg base "Store" "_take_out" 2 R_Store_take_out) :
    FnOk P w K mg base CX0 3 f fd ["self"] (spL K R_Store_undo) := by
  refine fn_okL (k := 2) F sc_Store_undo (fun a cs ds Ψ h => by cases h <;> rfl) fun a0 cs0 ds Ψ hR cdv A outer s H E hr => ?_
  have nd := sc_Store_undo.nd
  have hu := hr.units
  rcases hR with ⟨A, S, M, inv, hne, hl9⟩
  obtain ⟨Q, ⟨k, n⟩, hD⟩ := snoc_of hne
  obtain ⟨l, b, hdo, inv2⟩ := inv.undo hD
  have ok2 : StOk (S.unmk Q k n) := inv.ok.cong rfl rfl rfl
  walk_at "en"
  refine ws_cons (ws_if (td_not (td_truthA (cell_at 0 rfl st_m4) (ed_fldC 0 3 KL.«Store» rfl st_m0 (ed_varX 0 rfl)))) (fun hc1 => ?_) (fun hc1 => ?_))
  · skip
    exfalso; rw [hD] at hc1; simp at hc1
  · skip
    clear hc1
    refine ws_nil ?_
    refine ws_cons (ws_unpackP (ep_popI 0 4 rfl (st_g4 hD) (ed_fldC 0 3 KL.«Store» rfl st_m0 (ed_varX 0 rfl)) (fun h => pe_bm0 PySem.F.plainAttrs_list PySem.F.slot_list_pop PySem.F.type_list_pop mt_pop h)) ?_)
    rintro _ _ ⟨rfl, rfl⟩
    refine ⟨_, _, dg_tup rfl (dgs_cons (dg_name 1 nd) (dgs_cons (dg_name 2 nd) dgs_nil)), ?_⟩
    walk_at "env"
    refine ws_to 0 (cs' := stCs a0 A (⟨S.nb, S.sh, S.ix, Q, S.un⟩)) rfl (by first | (unfold stCs stH StS.unl; simp [dnD, stIx]; done) | (unfold stCs stH; simp [dnD, stIx])) ?_
    walk_at "env"
    refine ws_cons (ws_appendI 0 5 rfl rfl (ed_fldC 0 4 KL.«Store» rfl st_m0 (ed_varX 0 rfl)) (ed_tup (ad_cons (ed_var 1 rfl) (ad_cons (ed_var 2 rfl) ad_nil))) (by show (S.un.map dnD).length < _; rw [List.length_map, sizeLine_eq]; omega) ?_ (fun h h2 => ps_expr (pe_bm PySem.F.plainAttrs_list PySem.F.slot_list_append PySem.F.type_list_append mt_append h h2)))
    walk_at "env"
    refine ws_to 0 (cs' := stCs a0 A (S.unmk Q k n)) rfl (by unfold stCs stH StS.unmk; simp [dnD, stIx]) ?_
    walk_at "env"
    cases k
    · skip
      refine ws_cons (ws_if (td_cmp (ed_var 1 rfl) (ed_const KC.«ADDED» (by rfl)) (by walk_at "c2")) (fun hc2 => ?_) (fun hc2 => ?_))
      · skip
        exfalso; revert hc2; decide
      · skip
        clear hc2
        refine ws_cons (ws_exprP (ep_methW 0 G_Store_put_in (hr.mono (by decide)) rfl st_m0 (ed_varX 0 rfl) (ad_cons (ed_var 2 rfl) ad_nil) (.mk a0 A (S.unmk Q false n) ok2 n l b hdo.1 hdo.2)) ?_)
        rintro _ _ ⟨_, ⟨A2, rfl, rfl⟩, rfl⟩
        walk_at "env"
        refine ws_nil ?_
        refine ws_nil ?_
        refine Or.inr ⟨_, _, _, rfl, rfl, ?_⟩
        first
          | exact ⟨_, (S.unmk Q true n).does false n l b, by rw [hD, List.length_append]; exact inv2, rfl, undo_len hD (S.unmk Q true n) rfl rfl, rfl, by first | rfl | trivial⟩
          | exact ⟨_, (S.unmk Q false n).does true n l b, by rw [hD, List.length_append]; exact inv2, rfl, undo_len hD (S.unmk Q false n) rfl rfl, rfl, by first | rfl | trivial⟩
    · skip
      refine ws_cons (ws_if (td_cmp (ed_var 1 rfl) (ed_const KC.«ADDED» (by rfl)) (by walk_at "c2")) (fun hc3 => ?_) (fun hc3 => ?_))
      · skip
        clear hc3
        refine ws_cons (ws_exprP (ep_methW 0 G_Store_take_out (hr.mono (by decide)) rfl st_m0 (ed_varX 0 rfl) (ad_cons (ed_var 2 rfl) ad_nil) (.mk a0 A (S.unmk Q true n) ok2 n l b hdo)) ?_)
        rintro _ _ ⟨_, ⟨A2, rfl, rfl⟩, rfl⟩
        walk_at "env"
        refine ws_nil ?_
        refine ws_nil ?_
        refine Or.inr ⟨_, _, _, rfl, rfl, ?_⟩
        first
          | exact ⟨_, (S.unmk Q true n).does false n l b, by rw [hD, List.length_append]; exact inv2, rfl, undo_len hD (S.unmk Q true n) rfl rfl, rfl, by first | rfl | trivial⟩
          | exact ⟨_, (S.unmk Q false n).does true n l b, by rw [hD, List.length_append]; exact inv2, rfl, undo_len hD (S.unmk Q false n) rfl rfl, rfl, by first | rfl | trivial⟩
      · skip
        exfalso; revert hc3; decide
theorem okX_Store_undo {f : Addr} {fd : FuncData} (F : Fun K "undo" "Store.undo" s_Store_undo f fd) (B : Bt mg) (KC : Kt K mg) (KL : Lt K mg) (XF : Xt K mg)  :
    FnOk P w K mg base (L2N.CX P w) 3 f fd ["self"] (spXG K RX_Store_undo) := by
  refine fn_okXG (k := 2) F sc_Store_undo (fun ds c h => by cases h; rfl) fun ds cn hR cdv A outer s H E hr => ?_
  have nd := sc_Store_undo.nd
  have hu := hr.units
  rcases hR with ⟨S, he⟩
  unfold stO
  refine ⟨nosE 3, ?_⟩
  walk_at "en"
  refine xg_ifr (td_not (td_truth (ed_fld 3 KL.«Store» (ed_var 0 rfl)) rfl)) (fun hc1 => ?_) (fun hc1 => ?_)
  · skip
    clear hc1
    exact xg_no (xg_head (xg_raise XF.«NothingToUndo» (by rfl) (ad_cons ed_str ad_nil)))
  · skip
    exfalso; revert hc1; rw [he]; simp
abbrev s_Store_redo : Stmt := inClass (top 24) 10
theorem sc_Store_redo : FnScope ["self", "kind", "number"] ["self"] (defScope s_Store_redo) := ⟨rfl, rfl, rfl, by decide +kernel, rfl, by decide +kernel, by decide +kernel⟩
theorem ok_Store_redo {f : Addr} {fd : FuncData} (F : Fun K "redo" "Store.redo" s_Store_redo f fd) (B : Bt mg) (KC : Kt K mg) (KL : Lt K mg) (XF : Xt K mg) (G_Store_carry_out : FnML P w K mg base "Store" "_carry_out" 3 R_Store_carry_out) :
    FnOk P w K mg base CX0 4 f fd ["self"] (spL K R_Store_redo) := by
  refine fn_okL (k := 3) F sc_Store_redo (fun a cs ds Ψ h => by cases h <;> rfl) fun a0 cs0 ds Ψ hR cdv A outer s H E hr => ?_
  have nd := sc_Store_redo.nd
  have hu := hr.units
  rcases hR with ⟨A, S, M, inv, hne, hl9⟩
  obtain ⟨Q, ⟨k, n⟩, hU⟩ := snoc_of hne
  obtain ⟨l, b, hdo, inv2⟩ := inv.redo hU
  have ok2 : StOk (S.unl Q) := inv.ok.cong rfl rfl rfl
  walk_at "en"
  refine ws_cons (ws_if (td_not (td_truthA (cell_at 0 rfl st_m5) (ed_fldC 0 4 KL.«Store» rfl st_m0 (ed_varX 0 rfl)))) (fun hc1 => ?_) (fun hc1 => ?_))
  · skip
    exfalso; rw [hU] at hc1; simp at hc1
  · skip
    clear hc1
    refine ws_nil ?_
    refine ws_cons (ws_unpackP (ep_popI 0 5 rfl (st_g5 hU) (ed_fldC 0 4 KL.«Store» rfl st_m0 (ed_varX 0 rfl)) (fun h => pe_bm0 PySem.F.plainAttrs_list PySem.F.slot_list_pop PySem.F.type_list_pop mt_pop h)) ?_)
    rintro _ _ ⟨rfl, rfl⟩
    refine ⟨_, _, dg_tup rfl (dgs_cons (dg_name 1 nd) (dgs_cons (dg_name 2 nd) dgs_nil)), ?_⟩
    walk_at "env"
    refine ws_to 0 (cs' := stCs a0 A (S.unl Q)) rfl (by first | (unfold stCs stH StS.unl; simp [dnD, stIx]; done) | (unfold stCs stH; simp [dnD, stIx])) ?_
    walk_at "env"
    refine ws_cons (ws_exprP (ep_methW 0 G_Store_carry_out (hr.mono (by decide)) rfl st_m0 (ed_varX 0 rfl) (ad_cons (ed_var 1 rfl) (ad_cons (ed_var 2 rfl) ad_nil)) (.mk a0 A (S.unl Q) ok2 k n l b (by show S.dn.length ≤ 1000; omega) hdo)) ?_)
    rintro _ _ ⟨_, ⟨A2, rfl, rfl⟩, rfl⟩
    walk_at "env"
    refine ws_nil ?_
    refine Or.inr ⟨_, _, _, rfl, rfl, ?_⟩
    exact ⟨_, _, inv2, by rw [does_nb]; rfl, by rw [does_dn, does_un, hU]; simp [StS.remk, StS.logd, StS.unl]; omega, rfl, by first | rfl | trivial⟩
theorem okX_Store_redo {f : Addr} {fd : FuncData} (F : Fun K "redo" "Store.redo" s_Store_redo f fd) (B : Bt mg) (KC : Kt K mg) (KL : Lt K mg) (XF : Xt K mg)  :
    FnOk P w K mg base (L2N.CX P w) 4 f fd ["self"] (spXG K RX_Store_redo) := by
  refine fn_okXG (k := 3) F sc_Store_redo (fun ds c h => by cases h; rfl) fun ds cn hR cdv A outer s H E hr => ?_
  have nd := sc_Store_redo.nd
  have hu := hr.units
  rcases hR with ⟨S, he⟩
  unfold stO
  refine ⟨nosE 3, ?_⟩
  walk_at "en"
  refine xg_ifr (td_not (td_truth (ed_fld 4 KL.«Store» (ed_var 0 rfl)) rfl)) (fun hc1 => ?_) (fun hc1 => ?_)
  · skip
    clear hc1
    exact xg_no (xg_head (xg_raise XF.«NothingToRedo» (by rfl) (ad_cons ed_str ad_nil)))
  · skip
    exfalso; revert hc1; rw [he]; simp
abbrev s_Store_back_to : Stmt := inClass (top 24) 11
theorem sc_Store_back_to : FnScope ["self", "mark"] ["self", "mark"] (defScope s_Store_back_to) := ⟨rfl, rfl, rfl, by decide +kernel, rfl, by decide +kernel, by decide +kernel⟩
theorem ok_Store_back_to {f : Addr} {fd : FuncData} (F : Fun K "back_to" "Store.back_to" s_Store_back_to f fd) (B : Bt mg) (KC : Kt K mg) (KL : Lt K mg) (XF : Xt K mg) (G_Store_undo : FnML P w K mg base "Store" "undo" 3 R_Store_undo) :
    FnOk P w K mg base CX0 4 f fd ["self", "mark"] (spL K R_Store_back_to) := by
  refine fn_okL (k := 3) F sc_Store_back_to (fun a cs ds Ψ h => by cases h <;> rfl) fun a0 cs0 ds Ψ hR cdv A outer s H E hr => ?_
  have nd := sc_Store_back_to.nd
  have hu := hr.units
  rcases hR with ⟨A, S, M, inv, m, hm9, hl9⟩
  walk_at "en"
  refine ws_cons (ws_if (td_not (td_chain ed_int (ed_var 1 rfl) (ED.eq (ed_lenA (cell_at 0 rfl st_m4) (by rfl) B.«len» (ed_fldC 0 3 KL.«Store» rfl st_m0 (ed_varX 0 rfl))) (show _ = D.int ((S).dn.length : Int) by rw [List.length_map])) (by walk_at "c2") (by walk_at "c2"))) (fun hc1 => ?_) (fun hc1 => ?_))
  · skip
    exfalso; revert hc1; simp; omega
  · skip
    clear hc1
    refine ws_nil ?_
    refine ws_cons (ws_whileU (γ := StA × StS) (U := Unit) (fun g u => [(0, .ox (stCs a0 g.1 g.2) (.ad a0))]) (fun r => ()) (fun g => (InvM (M.to g.2.dn.length) g.2 ∧ g.2.nb = S.nb ∧ g.2.dn.length + g.2.un.length = S.dn.length + S.un.length) ∧ m ≤ g.2.dn.length) (fun g => g.2.dn.length) ((A, S)) (rfl) (⟨⟨by have h := inv.at_; cases M; simp only at h; subst h; exact inv, rfl, rfl⟩, hm9⟩) ?_)
    intro gw0 uw0 hW0
    walk_at "env"
    refine ⟨_, (td_cmp (ED.eq (ed_lenA (cell_at 0 rfl st_m4) (by rfl) B.«len» (ed_fldC 0 3 KL.«Store» rfl st_m0 (ed_varX 0 rfl))) (show _ = D.int ((gw0.2).dn.length : Int) by rw [List.length_map])) (ed_var 1 rfl) (by walk_at "c2")), fun hw0 => ?_, fun hw0 => ?_⟩
    · skip
      have hlt : m < gw0.2.dn.length := by simpa using hw0
      have hnn : gw0.2.dn ≠ [] := fun z => by rw [z] at hlt; cases hlt
      refine ws_cons (ws_exprP (ep_meth0W 0 G_Store_undo (hr.mono (by decide)) rfl st_m0 (ed_varX 0 rfl) (.mk a0 gw0.1 gw0.2 _ hW0.1.1 hnn (by have := hW0.1.2.2; omega))) ?_)
      rintro _ _ ⟨_, ⟨A2, S2, i2, n2, l2, rfl, rfl⟩, rfl⟩
      have hd2 : S2.dn.length = gw0.2.dn.length - 1 := i2.at_.symm
      walk_at "env"
      refine ws_nil ?_
      exact ⟨(A2, S2), rfl, ⟨⟨by rw [hd2]; exact i2, n2.trans hW0.1.2.1, l2.trans hW0.1.2.2⟩, by rw [hd2]; omega⟩, by show S2.dn.length < gw0.2.dn.length; omega⟩
    · skip
      have hle : gw0.2.dn.length = m := by have h1 : ¬ (m < gw0.2.dn.length) := (by simpa using hw0); have := hW0.2; omega
      refine ws_nil ?_
      refine Or.inr ⟨_, _, _, rfl, rfl, ?_⟩
      refine ⟨gw0.1, gw0.2, by rw [← hle]; exact hW0.1.1, hW0.1.2.1, hW0.1.2.2, rfl, by first | rfl | trivial⟩
theorem okX_Store_back_to {f : Addr} {fd : FuncData} (F : Fun K "back_to" "Store.back_to" s_Store_back_to f fd) (B : Bt mg) (KC : Kt K mg) (KL : Lt K mg) (XF : Xt K mg)  :
    FnOk P w K mg base (L2N.CX P w) 4 f fd ["self", "mark"] (spXG K RX_Store_back_to) := by
  refine fn_okXG (k := 3) F sc_Store_back_to (fun ds c h => by cases h; rfl) fun ds cn hR cdv A outer s H E hr => ?_
  have nd := sc_Store_back_to.nd
  have hu := hr.units
  rcases hR with ⟨S, m, he, sm⟩
  unfold stO
  refine ⟨nosE 2, ?_⟩
  walk_at "en"
  refine xg_ifr (td_not (td_chain ed_int (ed_var 1 rfl) (ed_callB (id := "len") (by rfl) B.«len» bb_len (ad_cons (ed_fld 3 KL.«Store» (ed_var 0 rfl)) ad_nil) (bc_lenL)) (by walk_at "c2") (by walk_at "c2"))) (fun hc1 => ?_) (fun hc1 => ?_)
  · skip
    clear hc1
    exact xg_no (xg_head (xg_raise XF.«UnknownMark» (by rfl) (ad_cons (ed_fs (fs_cons (by first | exact fm_s (ed_var 1 rfl) (by rw [sizeLine_eq]; decide +kernel) | exact fm_i (ed_var 1 rfl) (by exact sm.log)) (fs_cons ed_str fs_nil)) (by simp only [sumL_cons, show sumL ([] : List Str) = 0 from rfl]; have e1 : (" is no mark of the past" : Str).length = 23 := (by decide +kernel); have e3 := sm.len; unfold stI at e3; rw [e1, sizeLine_eq]; omega)) ad_nil)))
  · skip
    exfalso; revert hc1; rw [List.length_map]; simp; omega
abbrev s_Store_change : Stmt := inClass (top 24) 13
theorem sc_Store_change : FnScope ["self", "kind", "number"] ["self", "kind", "number"] (defScope s_Store_change) := ⟨rfl, rfl, rfl, by decide +kernel, rfl, by decide +kernel, by decide +kernel⟩
theorem ok_Store_change {f : Addr} {fd : FuncData} (F : Fun K "_change" "Store._change" s_Store_change f fd) (B : Bt mg) (KC : Kt K mg) (KL : Lt K mg) (XF : Xt K mg) (G_Store_carry_out : FnML P w K mg base "Store" "_carry_out" 3 R_Store_carry_out) :
    FnOk P w K mg base CX0 4 f fd ["self", "kind", "number"] (spL K R_Store_change) := by
  refine fn_okL (k := 3) F sc_Store_change (fun a cs ds Ψ h => by cases h <;> rfl) fun a0 cs0 ds Ψ hR cdv A outer s H E hr => ?_
  have nd := sc_Store_change.nd
  have hu := hr.units
  rcases hR with ⟨A, S, ok, k, n, l, b, hdn, hdo⟩
  have ok2 : StOk (S.unl []) := ok.cong rfl rfl rfl
  walk_at "en"
  rw [st_cons]
  refine ws_cons (ws_setFOU 0 4 KL.«Store» rfl (eo_lst ad_nil) fun q1 => ?_)
  walk_at "env"
  refine ws_perm 0 rfl (st_undone a0 A S q1) ?_
  walk_at "env"
  refine ws_dropHd 0 rfl ?_
  walk_at "env"
  refine ws_cons (ws_exprP (ep_methW 0 G_Store_carry_out (hr.mono (by decide)) rfl st_m0 (ed_varX 0 rfl) (ad_cons (ed_var 1 rfl) (ad_cons (ed_var 2 rfl) ad_nil)) (.mk a0 _ (S.unl []) ok2 k n l b hdn hdo)) ?_)
  rintro _ _ ⟨_, ⟨A2, rfl, rfl⟩, rfl⟩
  walk_at "env"
  refine ws_nil ?_
  refine Or.inr ⟨_, _, _, rfl, rfl, ?_⟩
  exact ⟨_, rfl, by first | rfl | trivial⟩
abbrev s_Store_carry_out : Stmt := inClass (top 24) 14
theorem sc_Store_carry_out : FnScope ["self", "kind", "number"] ["self", "kind", "number"] (defScope s_Store_carry_out) := ⟨rfl, rfl, rfl, by decide +kernel, rfl, by decide +kernel, by decide +kernel⟩
theorem ok_Store_carry_out {f : Addr} {fd : FuncData} (F : Fun K "_carry_out" "Store._carry_out" s_Store_carry_out f fd) (B : Bt mg) (KC : Kt K mg) (KL : Lt K mg) (XF : Xt K mg) (G_Store_put_in : FnML P w K mg base "Store" "_put_in" 2 R_Store_put_in) (G_Store_take_out : FnML P w K mg base "Store" "_take_out" 2 R_Store_take_out) :
    FnOk P w K mg base CX0 3 f fd ["self", "kind", "number"] (spL K R_Store_carry_out) := by
  refine fn_okL (k := 2) F sc_Store_carry_out (fun a cs ds Ψ h => by cases h <;> rfl) fun a0 cs0 ds Ψ hR cdv A outer s H E hr => ?_
  have nd := sc_Store_carry_out.nd
  have hu := hr.units
  rcases hR with ⟨A, S, ok, k, n, l, b, hdn, hdo⟩
  have ok2 : StOk (S.logd k n) := ok.cong rfl rfl rfl
  walk_at "en"
  refine ws_cons (ws_appendI 0 4 rfl rfl (ed_fldC 0 3 KL.«Store» rfl st_m0 (ed_varX 0 rfl)) (ed_tup (ad_cons (ed_var 1 rfl) (ad_cons (ed_var 2 rfl) ad_nil))) (by rw [List.length_map, sizeLine_eq]; omega) ?_ (fun h h2 => ps_expr (pe_bm PySem.F.plainAttrs_list PySem.F.slot_list_append PySem.F.type_list_append mt_append h h2)))
  walk_at "env"
  refine ws_to 0 (cs' := stCs a0 A (S.logd k n)) rfl (by unfold stCs stH StS.logd; simp [dnD, stIx]) ?_
  walk_at "env"
  cases k
  · skip
    refine ws_cons (ws_if (td_cmp (ed_var 1 rfl) (ed_const KC.«ADDED» (by rfl)) (by walk_at "c2")) (fun hc1 => ?_) (fun hc1 => ?_))
    · skip
      exfalso; revert hc1; decide
    · skip
      clear hc1
      refine ws_cons (ws_exprP (ep_methW 0 G_Store_take_out (hr.mono (by decide)) rfl st_m0 (ed_varX 0 rfl) (ad_cons (ed_var 2 rfl) ad_nil) (.mk a0 A (S.logd false n) ok2 n l b hdo)) ?_)
      rintro _ _ ⟨_, ⟨A2, rfl, rfl⟩, rfl⟩
      walk_at "env"
      refine ws_nil ?_
      refine ws_nil ?_
      refine Or.inr ⟨_, _, _, rfl, rfl, ?_⟩
      exact ⟨_, rfl, by first | rfl | trivial⟩
  · skip
    refine ws_cons (ws_if (td_cmp (ed_var 1 rfl) (ed_const KC.«ADDED» (by rfl)) (by walk_at "c2")) (fun hc2 => ?_) (fun hc2 => ?_))
    · skip
      clear hc2
      refine ws_cons (ws_exprP (ep_methW 0 G_Store_put_in (hr.mono (by decide)) rfl st_m0 (ed_varX 0 rfl) (ad_cons (ed_var 2 rfl) ad_nil) (.mk a0 A (S.logd true n) ok2 n l b hdo.1 hdo.2)) ?_)
      rintro _ _ ⟨_, ⟨A2, rfl, rfl⟩, rfl⟩
      walk_at "env"
      refine ws_nil ?_
      refine ws_nil ?_
      refine Or.inr ⟨_, _, _, rfl, rfl, ?_⟩
      exact ⟨_, rfl, by first | rfl | trivial⟩
    · skip
      exfalso; revert hc2; decide
abbrev s_Store_put_in : Stmt := inClass (top 24) 15
theorem sc_Store_put_in : FnScope ["self", "number", "layer", "box"] ["self", "number"] (defScope s_Store_put_in) := ⟨rfl, rfl, rfl, by decide +kernel, rfl, by decide +kernel, by decide +kernel⟩
theorem ok_Store_put_in {f : Addr} {fd : FuncData} (F : Fun K "_put_in" "Store._put_in" s_Store_put_in f fd) (B : Bt mg) (KC : Kt K mg) (KL : Lt K mg) (XF : Xt K mg) (G_LayerIndex_put_in : FnML P w K mg base "LayerIndex" "put_in" 1 R_LayerIndex_put_in) :
    FnOk P w K mg base CX0 2 f fd ["self", "number"] (spL K R_Store_put_in) := by
  refine fn_okL (k := 1) F sc_Store_put_in (fun a cs ds Ψ h => by cases h <;> rfl) fun a0 cs0 ds Ψ hR cdv A outer s H E hr => ?_
  have nd := sc_Store_put_in.nd
  have hu := hr.units
  rcases hR with ⟨A, S, ok, n, l, b, hn, hs⟩
  have hlm := ok.nbl hn
  have hno := ok.bxno hlm hs
  have hno2 := ok.ltno hlm hs
  walk_at "en"
  refine ws_cons (ws_unpack (ed_ixA (cell_at 0 rfl st_m1) (ed_fldC 0 0 KL.«Store» rfl st_m0 (ed_varX 0 rfl)) (ed_var 1 rfl) (nb_at hn)) (dg_tup rfl (dgs_cons (dg_name 2 nd) (dgs_cons (dg_name 3 nd) dgs_nil))) ?_)
  walk_at "env"
  refine ws_cons (ws_dputI 0 2 (k0 := .inl n) hu rfl rfl (ed_fldC 0 1 KL.«Store» rfl st_m0 (ed_varX 0 rfl)) (ed_var 1 rfl) (ed_tup (ad_cons (ed_var 2 rfl) (ad_cons (ed_var 3 rfl) ad_nil))) (fun z => hs (mem_kSx.mp z)) (by have := ok.shl; rw [List.length_map, sizeLine_eq]; omega) ?_)
  walk_at "env"
  refine ws_to 0 (cs' := stCs a0 A ⟨S.nb, S.sh ++ [(n, l, b)], S.ix, S.dn, S.un⟩) rfl (by unfold stCs stH; simp [kSx, dSx, shE, stIx]) ?_
  walk_at "env"
  obtain ⟨R9, hR1, hR2⟩ := st_front a0 A ⟨S.nb, S.sh ++ [(n, l, b)], S.ix, S.dn, S.un⟩ hlm
  refine ws_perm 0 rfl hR1 ?_
  walk_at "env"
  refine ws_cons (ws_exprP (ep_meth 0 (cs := stLx (A.ad l) (S.ix l)) G_LayerIndex_put_in (hr.mono (by decide)) rfl st_mx (ed_dixI 0 hu rfl st_f3 (ed_fldC 0 2 KL.«Store» rfl st_f0 (ed_varX 0 rfl)) (ed_var 2 rfl) (k0 := .inr l) (lookK_lx (f := fun l => D.ad (A.ad l).1) hlm)) (ad_cons (ed_var 1 rfl) (ad_cons (ed_var 3 rfl) ad_nil)) (.mk _ _ _ _ (S.ix l) n b hno hno2 (by have := ok.bxl hlm; omega) (by have := ok.ltl hlm; omega))) ?_)
  rintro _ _ ⟨_, ⟨rfl, rfl⟩, rfl⟩
  walk_at "env"
  refine ws_perm 0 rfl (hR2 _ _ _ _) ?_
  walk_at "env"
  refine ws_nil ?_
  refine Or.inr ⟨_, _, _, rfl, rfl, ?_⟩
  exact ⟨_, rfl, by first | rfl | trivial⟩
abbrev s_Store_take_out : Stmt := inClass (top 24) 16
theorem sc_Store_take_out : FnScope ["self", "number", "layer", "_"] ["self", "number"] (defScope s_Store_take_out) := ⟨rfl, rfl, rfl, by decide +kernel, rfl, by decide +kernel, by decide +kernel⟩
theorem ok_Store_take_out {f : Addr} {fd : FuncData} (F : Fun K "_take_out" "Store._take_out" s_Store_take_out f fd) (B : Bt mg) (KC : Kt K mg) (KL : Lt K mg) (XF : Xt K mg) (G_LayerIndex_take_out : FnML P w K mg base "LayerIndex" "take_out" 1 R_LayerIndex_take_out) :
    FnOk P w K mg base CX0 2 f fd ["self", "number"] (spL K R_Store_take_out) := by
  refine fn_okL (k := 1) F sc_Store_take_out (fun a cs ds Ψ h => by cases h <;> rfl) fun a0 cs0 ds Ψ hR cdv A outer s H E hr => ?_
  have nd := sc_Store_take_out.nd
  have hu := hr.units
  rcases hR with ⟨A, S, ok, n, l, b, hn⟩
  have hlm := ok.shL hn
  have hix := (ok.ib l hlm n).mpr ⟨b, hn⟩
  walk_at "en"
  refine ws_cons (ws_unpack (ed_dixI 0 hu rfl st_m2 (ed_fldC 0 1 KL.«Store» rfl st_m0 (ed_varX 0 rfl)) (ed_var 1 rfl) (k0 := .inl n) (lookK_sx ok.sn hn)) (dg_tup rfl (dgs_cons (dg_name 2 nd) (dgs_cons (dg_name 3 nd) dgs_nil))) ?_)
  walk_at "env"
  refine ws_cons (ws_ddelI 0 2 (k0 := .inl n) rfl rfl (ed_fldC 0 1 KL.«Store» rfl st_m0 (ed_varX 0 rfl)) (ed_var 1 rfl) (mem_kSx.mpr (List.mem_map.mpr ⟨_, hn, rfl⟩)) ?_)
  walk_at "env"
  refine ws_to 0 (cs' := stCs a0 A ⟨S.nb, delS S.sh n, S.ix, S.dn, S.un⟩) rfl (by unfold stCs stH; simp [delK_sx, delV_sx, stIx]) ?_
  walk_at "env"
  obtain ⟨R9, hR1, hR2⟩ := st_front a0 A ⟨S.nb, delS S.sh n, S.ix, S.dn, S.un⟩ hlm
  refine ws_perm 0 rfl hR1 ?_
  walk_at "env"
  refine ws_cons (ws_exprP (ep_meth 0 (cs := stLx (A.ad l) (S.ix l)) G_LayerIndex_take_out (hr.mono (by decide)) rfl st_mx (ed_dixI 0 hu rfl st_f3 (ed_fldC 0 2 KL.«Store» rfl st_f0 (ed_varX 0 rfl)) (ed_var 2 rfl) (k0 := .inr l) (lookK_lx (f := fun l => D.ad (A.ad l).1) hlm)) (ad_cons (ed_var 1 rfl) ad_nil) (.mk _ _ _ _ (S.ix l) n hix)) ?_)
  rintro _ _ ⟨_, ⟨rfl, rfl⟩, rfl⟩
  walk_at "env"
  refine ws_perm 0 rfl (hR2 _ _ _ _) ?_
  walk_at "env"
  refine ws_nil ?_
  refine Or.inr ⟨_, _, _, rfl, rfl, ?_⟩
  exact ⟨_, rfl, by first | rfl | trivial⟩
abbrev s_law_cell : Stmt := top 26
theorem sc_law_cell : FnScope ["script", "k"] ["script", "k"] (defScope s_law_cell) := ⟨rfl, rfl, rfl, by decide +kernel, rfl, by decide +kernel, by decide +kernel⟩
theorem ok_law_cell {f : Addr} {fd : FuncData} (F : Fun K "_law_cell" "_law_cell" s_law_cell f fd) (B : Bt mg) (KC : Kt K mg) (KL : Lt K mg) (XF : Xt K mg)  :
    FnOk P w K mg base CX0 1 f fd ["script", "k"] (spR K R_law_cell) := by
  refine fn_ok (k := 0) F sc_law_cell (fun ds d h => by cases h <;> rfl) fun ds d hR cdv A outer s H E hr => ?_
  have nd := sc_law_cell.nd
  have hu := hr.units
  rcases hR with ⟨ns, k, h0⟩
  walk_at "en"
  refine ws_cons (ws_if (td_cmp (ed_var 1 rfl) (ed_callB (id := "len") (by rfl) B.«len» bb_len (ad_cons (ed_var 0 rfl) ad_nil) (by walk_at "bc")) (by walk_at "c2")) (fun hc1 => ?_) (fun hc1 => ?_))
  · skip
    simp only [decide_eq_true_eq, List.length_map] at hc1
    refine ws_cons (ws_ret (ED.eq (ed_ix (ed_var 0 rfl) (ed_var 1 rfl) (IX.l (at_ints (k := k.toNat) (x := cellAt ns k) (by omega) (by unfold cellAt; simp [show k.toNat < ns.length by omega])))) ?_) (Or.inl rfl))
    rfl
  · skip
    simp only [decide_eq_false_iff_not, List.length_map] at hc1
    refine ws_nil ?_
    refine ws_cons (ws_ret (ED.eq ed_int ?_) (Or.inl rfl))
    unfold cellAt; rw [List.getD_eq_getElem?_getD, List.getElem?_eq_none (by omega)]; rfl
abbrev s_law_draws : Stmt := top 27
theorem sc_law_draws : FnScope ["cell", "count", "rows", "left", "k", "mixed"] ["cell", "count"] (defScope s_law_draws) := ⟨rfl, rfl, rfl, by decide +kernel, rfl, by decide +kernel, by decide +kernel⟩
theorem ok_law_draws {f : Addr} {fd : FuncData} (F : Fun K "_law_draws" "_law_draws" s_law_draws f fd) (B : Bt mg) (KC : Kt K mg) (KL : Lt K mg) (XF : Xt K mg)  :
    FnOk P w K mg base CX0 1 f fd ["cell", "count"] (spR K R_law_draws) := by
  refine fn_ok (k := 0) F sc_law_draws (fun ds d h => by cases h <;> rfl) fun ds d hR cdv A outer s H E hr => ?_
  have nd := sc_law_draws.nd
  have hu := hr.units
  rcases hR with ⟨c, n, h0, h1⟩
  walk_at "en"
  refine ws_cons (ws_setO 2 nd (eo_lst ad_nil) ?_)
  walk_at "env"
  refine ws_cons (ws_set 3 nd (ed_var 0 rfl) ?_)
  walk_at "env"
  refine ws_cons (ws_forU (List.range n.toNat) (fun (i : Nat) => D.int (i : Int)) rfl (id_range1 (by rfl) B.«range» (ed_var 1 rfl) (by walk_at "side")) (by exact rngD0 _) (U := Sl × Sl) (fun i u => [(2, .ow (.lst ((drawn c i).1.map D.int))), (3, .sh (.int (drawn c i).2)), (4, u.1), (5, u.2)]) (fun r => (r.getD 4 .no, r.getD 5 .no)) (fun _ => True) (rfl) (True.intro) ?_ ?_)
  · intro i0 t u0 hx0 hP0
    obtain rfl : i0 = t := by
      obtain ⟨hl, he⟩ := List.getElem?_eq_some_iff.mp hx0
      rw [List.getElem_range] at he; exact he
    refine ⟨_, _, (dg_name 4 nd), ?_⟩
    walk_at "env"
    refine ws_cons (ws_if (td_tw (tw_and (td_cmp (ed_var 0 rfl) (ed_bin ed_int ed_int (b2_powL (n := 1000000000000000000) ⟨by decide, by decide, by decide⟩ (by decide))) (by walk_at "c2")) (fun hb2 => (tw_and1 (td_cmp (ed_var 3 rfl) ed_int (by walk_at "c2")))))) (fun hc1 => ?_) (fun hc1 => ?_))
    · skip
      simp only [Bool.and_eq_true, decide_eq_true_eq] at hc1
      have e : drawn c (i0 + 1) = ((drawn c i0).1 ++ [(drawn c i0).2 % 4096], (drawn c i0).2 / 4096) := by
        rw [drawn_succ]; unfold drawStep; rw [if_pos hc1]
      refine ws_cons (ws_append 2 rfl (ed_bin (ed_callT (T := "int") (by rfl) B.«int» bb_int (ad_cons (ed_var 3 rfl) ad_nil) (by walk_at "bc")) ed_int (by walk_at "b2")) (by rw [List.length_map, (draws_spec c i0).1, sizeLine_eq]; have := (List.getElem?_eq_some_iff.mp hx0).1; rw [List.length_range] at this; omega) ?_ (fun h => ps_expr (pe_bm PySem.F.plainAttrs_list PySem.F.slot_list_append PySem.F.type_list_append mt_append (pv 2) h)))
      walk_at "env"
      refine ws_cons (ws_set 3 nd (ed_bin (ed_var 3 rfl) ed_int (by walk_at "b2")) ?_)
      walk_at "env"
      refine ws_nil ?_
      refine ws_nil ?_
      refine ⟨?_, True.intro⟩
      rw [e, List.map_append]
      rfl
    · skip
      have e : drawn c (i0 + 1) = ((drawn c i0).1 ++ [mix3 c i0 / 7 % 4096], (drawn c i0).2) := by
        rw [drawn_succ]; unfold drawStep; rw [if_neg]; intro z; rw [decide_eq_true z.1, decide_eq_true z.2] at hc1; cases hc1
      refine ws_cons (ws_set 5 nd (ed_bin (ed_callT (T := "int") (by rfl) B.«int» bb_int (ad_cons (ed_bin (ed_bin (ed_var 0 rfl) ed_int (by walk_at "b2")) (ed_bin (ed_bin (ed_var 4 rfl) ed_int (by walk_at "b2")) ed_int (by walk_at "b2")) (by walk_at "b2")) ad_nil) (by walk_at "bc")) ed_int (by walk_at "b2")) ?_)
      walk_at "env"
      refine ws_cons (ws_set 5 nd (ed_bin (ed_callT (T := "int") (by rfl) B.«int» bb_int (ad_cons (ed_bin (ed_bin (ed_bin (ed_var 5 rfl) (ed_var 5 rfl) (by walk_at "b2")) (ed_bin (ed_var 5 rfl) ed_int (by walk_at "b2")) (by walk_at "b2")) (ed_bin (ed_var 4 rfl) ed_int (by walk_at "b2")) (by walk_at "b2")) ad_nil) (by walk_at "bc")) ed_int (by walk_at "b2")) ?_)
      walk_at "env"
      refine ws_cons (ws_set 5 nd (ed_bin (ed_callT (T := "int") (by rfl) B.«int» bb_int (ad_cons (ed_bin (ed_bin (ed_bin (ed_var 5 rfl) (ed_var 5 rfl) (by walk_at "b2")) (ed_var 0 rfl) (by walk_at "b2")) (ed_bin ed_int (ed_var 4 rfl) (by walk_at "b2")) (by walk_at "b2")) ad_nil) (by walk_at "bc")) ed_int (by walk_at "b2")) ?_)
      walk_at "env"
      refine ws_cons (ws_append 2 rfl (ed_bin (ed_bin (ed_var 5 rfl) ed_int (by walk_at "b2")) ed_int (by walk_at "b2")) (by rw [List.length_map, (draws_spec c i0).1, sizeLine_eq]; have := (List.getElem?_eq_some_iff.mp hx0).1; rw [List.length_range] at this; omega) ?_ (fun h => ps_expr (pe_bm PySem.F.plainAttrs_list PySem.F.slot_list_append PySem.F.type_list_append mt_append (pv 2) h)))
      walk_at "env"
      refine ws_nil ?_
      refine ws_nil ?_
      refine ⟨?_, True.intro⟩
      rw [e, List.map_append]
      rfl
  · intro u0 hP0
    walk_at "env"
    rw [List.length_range]
    refine ws_share 2 rfl ?_
    refine ws_cons (ws_ret (ED.eq (ed_var 2 rfl) ?_) (Or.inl rfl))
    rfl
abbrev s_law_is_int : Stmt := top 28
theorem sc_law_is_int : FnScope ["x"] ["x"] (defScope s_law_is_int) := ⟨rfl, rfl, rfl, by decide +kernel, rfl, by decide +kernel, by decide +kernel⟩
theorem ok_law_is_int {f : Addr} {fd : FuncData} (F : Fun K "_law_is_int" "_law_is_int" s_law_is_int f fd) (B : Bt mg) (KC : Kt K mg) (KL : Lt K mg) (XF : Xt K mg)  :
    FnOk P w K mg base CX0 1 f fd ["x"] (spR K R_law_is_int) := by
  refine fn_ok (k := 0) F sc_law_is_int (fun ds d h => by cases h <;> rfl) fun ds d hR cdv A outer s H E hr => ?_
  have nd := sc_law_is_int.nd
  have hu := hr.units
  cases hR
  walk_at "en"
  refine ws_cons (ws_ret (ED.eq (ed_and (ed_callB (id := "isinstance") (by rfl) B.«isinstance» bb_isinstance (ad_cons (ed_var 0 rfl) (ad_cons (ed_ty (n := "int") (by rfl) B.«int» bb_int) ad_nil)) (bc_isi (c := "int") (by rfl) (by rfl))) (fun hb1 => (ed_one (ed_not (ed_callB (id := "isinstance") (by rfl) B.«isinstance» bb_isinstance (ad_cons (ed_var 0 rfl) (ad_cons (ed_ty (n := "bool") (by rfl) B.«bool» bb_bool) ad_nil)) (bc_isi (c := "bool") (by rfl) (by rfl))))))) ?_) (Or.inl rfl))
  rfl
abbrev s_law_ints_list : Stmt := top 29
theorem sc_law_ints_list : FnScope ["x", "kind", "k"] ["x", "kind"] (defScope s_law_ints_list) := ⟨rfl, rfl, rfl, by decide +kernel, rfl, by decide +kernel, by decide +kernel⟩
theorem ok_law_ints_list {f : Addr} {fd : FuncData} (F : Fun K "_law_ints" "_law_ints" s_law_ints_list f fd) (B : Bt mg) (KC : Kt K mg) (KL : Lt K mg) (XF : Xt K mg) (G_law_is_int : Fn P w K mg base "_law_is_int" 1 R_law_is_int) :
    FnOk P w K mg base CX0 2 f fd ["x", "kind"] (spR K R_law_ints_list) := by
  refine fn_ok (k := 1) F sc_law_ints_list (fun ds d h => by cases h <;> rfl) fun ds d hR cdv A outer s H E hr => ?_
  have nd := sc_law_ints_list.nd
  have hu := hr.units
  rcases hR with ⟨ns, hn⟩
  walk_at "en"
  refine ws_cons (ws_if (td_cmp (ed_var 1 rfl) ed_str (by walk_at "c2")) (fun hc1 => ?_) (fun hc1 => ?_))
  · skip
    clear hc1
    refine ws_cons (ws_if (td_not (td_truth (ed_callB (id := "isinstance") (by rfl) B.«isinstance» bb_isinstance (ad_cons (ed_var 0 rfl) (ad_cons (ed_ty (n := "list") (by rfl) B.«list» bb_list) ad_nil)) (bc_isi (c := "list") (by rfl) (by rfl))) rfl)) (fun hc2 => ?_) (fun hc2 => ?_))
    · skip
      cases hc2
    · skip
      clear hc2
      refine ws_nil ?_
      refine ws_nil ?_
      refine ws_cons (ws_forU (List.range ns.length) (fun (i : Nat) => D.int (i : Int)) rfl (id_range1 (by rfl) B.«range» (ed_callB (id := "len") (by rfl) B.«len» bb_len (ad_cons (ed_var 0 rfl) ad_nil) (by walk_at "bc")) (by rw [List.length_map]; omega)) (by rw [List.length_map]; exact rngD0 _) (U := Sl) (fun i u => [(2, u)]) (fun r => (r.getD 2 .no)) (fun _ => True) (rfl) (True.intro) ?_ ?_)
      · intro i0 t u0 hx0 hP0
        obtain rfl : i0 = t := by
          obtain ⟨hl, he⟩ := List.getElem?_eq_some_iff.mp hx0
          rw [List.getElem_range] at he; exact he
        have hi0 : i0 < ns.length := by have := (List.getElem?_eq_some_iff.mp hx0).1; rwa [List.length_range] at this
        refine ⟨_, _, (dg_name 2 nd), ?_⟩
        walk_at "env"
        refine ws_cons (ws_if (td_not (td_truth (ed_call G_law_is_int (hr.mono (by decide)) (by rfl) (ad_cons (ed_ix (d := .int ns[i0]) (ed_var 0 rfl) (ed_var 2 rfl) (.l (at_ints (k := i0) rfl (by simp [hi0])))) ad_nil) (by walk_at "mk")) rfl)) (fun hc3 => ?_) (fun hc3 => ?_))
        · skip
          cases hc3
        · skip
          clear hc3
          refine ws_nil ?_
          refine ws_nil ?_
          exact ⟨rfl, True.intro⟩
      · intro u0 hP0
        walk_at "env"
        refine ws_cons (ws_ret (ED.eq ed_bl ?_) (Or.inl rfl))
        rfl
  · skip
    exact absurd hc1 (by decide)
abbrev s_law_is_list : Stmt := top 30
theorem sc_law_is_list : FnScope ["x", "due"] ["x", "due"] (defScope s_law_is_list) := ⟨rfl, rfl, rfl, by decide +kernel, rfl, by decide +kernel, by decide +kernel⟩
theorem ok_law_is_list {f : Addr} {fd : FuncData} (F : Fun K "_law_is_list" "_law_is_list" s_law_is_list f fd) (B : Bt mg) (KC : Kt K mg) (KL : Lt K mg) (XF : Xt K mg) (G_law_ints_list : Fn P w K mg base "_law_ints" 2 R_law_ints_list) (G_law_ints_list : Fn P w K mg base "_law_ints" 2 R_law_ints_list) :
    FnOk P w K mg base CX0 3 f fd ["x", "due"] (spR K R_law_is_list) := by
  refine fn_ok (k := 2) F sc_law_is_list (fun ds d h => by cases h <;> rfl) fun ds d hR cdv A outer s H E hr => ?_
  have nd := sc_law_is_list.nd
  have hu := hr.units
  rcases hR with ⟨ns, hn⟩
  walk_at "en"
  refine ws_cons (ws_ret (ED.eq (ed_and (ed_call G_law_ints_list (hr.mono (by decide)) (by rfl) (ad_cons (ed_var 0 rfl) (ad_cons ed_str ad_nil)) (by exact .mk _ (by assumption))) (fun hb1 => (ed_one (ed_cmp (ed_var 0 rfl) (ed_var 1 rfl) (by walk_at "c2"))))) ?_) (Or.inl rfl))
  simp
abbrev s_law_is_number : Stmt := top 31
theorem sc_law_is_number : FnScope ["x", "due"] ["x", "due"] (defScope s_law_is_number) := ⟨rfl, rfl, rfl, by decide +kernel, rfl, by decide +kernel, by decide +kernel⟩
theorem ok_law_is_number {f : Addr} {fd : FuncData} (F : Fun K "_law_is_number" "_law_is_number" s_law_is_number f fd) (B : Bt mg) (KC : Kt K mg) (KL : Lt K mg) (XF : Xt K mg) (G_law_is_int : Fn P w K mg base "_law_is_int" 1 R_law_is_int) :
    FnOk P w K mg base CX0 2 f fd ["x", "due"] (spR K R_law_is_number) := by
  refine fn_ok (k := 1) F sc_law_is_number (fun ds d h => by cases h <;> rfl) fun ds d hR cdv A outer s H E hr => ?_
  have nd := sc_law_is_number.nd
  have hu := hr.units
  rcases hR with ⟨i, j⟩
  walk_at "en"
  refine ws_cons (ws_ret (ED.eq (ed_and (ed_call G_law_is_int (hr.mono (by decide)) (by rfl) (ad_cons (ed_var 0 rfl) ad_nil) (by walk_at "mk")) (fun hb1 => (ed_one (ed_cmp (ed_var 0 rfl) (ed_var 1 rfl) (by walk_at "c2"))))) ?_) (Or.inl rfl))
  simp
abbrev s_law_box_of : Stmt := top 32
theorem sc_law_box_of : FnScope ["draw", "more", "x0", "y0"] ["draw", "more"] (defScope s_law_box_of) := ⟨rfl, rfl, rfl, by decide +kernel, rfl, by decide +kernel, by decide +kernel⟩
theorem ok_law_box_of {f : Addr} {fd : FuncData} (F : Fun K "_law_box_of" "_law_box_of" s_law_box_of f fd) (B : Bt mg) (KC : Kt K mg) (KL : Lt K mg) (XF : Xt K mg)  :
    FnOk P w K mg base CX0 1 f fd ["draw", "more"] (spR K R_law_box_of) := by
  refine fn_ok (k := 0) F sc_law_box_of (fun ds d h => by cases h <;> rfl) fun ds d hR cdv A outer s H E hr => ?_
  have nd := sc_law_box_of.nd
  have hu := hr.units
  cases hR
  walk_at "en"
  refine ws_cons (ws_set 2 nd (ed_bin (ed_bin (ed_var 0 rfl) ed_int (by walk_at "b2")) ed_int (by walk_at "b2")) ?_)
  walk_at "env"
  refine ws_cons (ws_set 3 nd (ed_bin (ed_bin (ed_bin (ed_var 0 rfl) ed_int (by walk_at "b2")) ed_int (by walk_at "b2")) ed_int (by walk_at "b2")) ?_)
  walk_at "env"
  refine ws_cons (ws_ret (ED.eq (ed_tup (ad_cons (ed_var 2 rfl) (ad_cons (ed_var 3 rfl) (ad_cons (ed_bin (ed_bin (ed_var 2 rfl) ed_int (by walk_at "b2")) (ed_bin (ed_bin (ed_var 0 rfl) ed_int (by walk_at "b2")) ed_int (by walk_at "b2")) (by walk_at "b2")) (ad_cons (ed_bin (ed_bin (ed_var 3 rfl) ed_int (by walk_at "b2")) (ed_bin (ed_var 1 rfl) ed_int (by walk_at "b2")) (by walk_at "b2")) ad_nil))))) ?_) (Or.inl rfl))
  rfl
abbrev s_law_in : Stmt := top 33
theorem sc_law_in : FnScope ["box", "x", "y"] ["box", "x", "y"] (defScope s_law_in) := ⟨rfl, rfl, rfl, by decide +kernel, rfl, by decide +kernel, by decide +kernel⟩
theorem ok_law_in {f : Addr} {fd : FuncData} (F : Fun K "_law_in" "_law_in" s_law_in f fd) (B : Bt mg) (KC : Kt K mg) (KL : Lt K mg) (XF : Xt K mg)  :
    FnOk P w K mg base CX0 1 f fd ["box", "x", "y"] (spR K R_law_in) := by
  refine fn_ok (k := 0) F sc_law_in (fun ds d h => by cases h <;> rfl) fun ds d hR cdv A outer s H E hr => ?_
  have nd := sc_law_in.nd
  have hu := hr.units
  cases hR
  walk_at "en"
  refine ws_cons (ws_ret (ED.eq (ed_and (ed_chain (ed_ix (ed_var 0 rfl) ed_int (by walk_at "ix")) (ed_var 1 rfl) (ed_ix (ed_var 0 rfl) ed_int (by walk_at "ix")) (by walk_at "c2") (by walk_at "c2")) (fun hb1 => (ed_one (ed_chain (ed_ix (ed_var 0 rfl) ed_int (by walk_at "ix")) (ed_var 2 rfl) (ed_ix (ed_var 0 rfl) ed_int (by walk_at "ix")) (by walk_at "c2") (by walk_at "c2"))))) ?_) (Or.inl rfl))
  rfl
abbrev s_law_like_int : Stmt := top 34
theorem sc_law_like_int : FnScope ["actual", "due", "k"] ["actual", "due"] (defScope s_law_like_int) := ⟨rfl, rfl, rfl, by decide +kernel, rfl, by decide +kernel, by decide +kernel⟩
theorem ok_law_like_int {f : Addr} {fd : FuncData} (F : Fun K "_law_like" "_law_like" s_law_like_int f fd) (B : Bt mg) (KC : Kt K mg) (KL : Lt K mg) (XF : Xt K mg)  :
    FnOk P w K mg base CX0 1 f fd ["actual", "due"] (spR K R_law_like_int) := by
  refine fn_ok (k := 0) F sc_law_like_int (fun ds d h => by cases h <;> rfl) fun ds d hR cdv A outer s H E hr => ?_
  have nd := sc_law_like_int.nd
  have hu := hr.units
  rcases hR with ⟨i⟩
  walk_at "en"
  refine ws_cons (ws_if (td_cmp (ed_var 1 rfl) ed_non (by walk_at "c2")) (fun hc1 => ?_) (fun hc1 => ?_))
  · skip
    cases hc1
  · skip
    clear hc1
    refine ws_nil ?_
    refine ws_cons (ws_if (td_truth (ed_callB (id := "isinstance") (by rfl) B.«isinstance» bb_isinstance (ad_cons (ed_var 1 rfl) (ad_cons (ed_ty (n := "bool") (by rfl) B.«bool» bb_bool) ad_nil)) (bc_isi (c := "bool") (by rfl) (by rfl))) rfl) (fun hc2 => ?_) (fun hc2 => ?_))
    · skip
      cases hc2
    · skip
      clear hc2
      refine ws_nil ?_
      refine ws_cons (ws_if (td_truth (ed_callB (id := "isinstance") (by rfl) B.«isinstance» bb_isinstance (ad_cons (ed_var 1 rfl) (ad_cons (ed_ty (n := "str") (by rfl) B.«str» bb_str) ad_nil)) (bc_isi (c := "str") (by rfl) (by rfl))) rfl) (fun hc3 => ?_) (fun hc3 => ?_))
      · skip
        cases hc3
      · skip
        clear hc3
        refine ws_nil ?_
        refine ws_cons (ws_if (td_truth (ed_callB (id := "isinstance") (by rfl) B.«isinstance» bb_isinstance (ad_cons (ed_var 1 rfl) (ad_cons (ed_ty (n := "int") (by rfl) B.«int» bb_int) ad_nil)) (bc_isi (c := "int") (by rfl) (by rfl))) rfl) (fun hc4 => ?_) (fun hc4 => ?_))
        · skip
          clear hc4
          refine ws_cons (ws_ret (ED.eq (ed_and (ed_callB (id := "isinstance") (by rfl) B.«isinstance» bb_isinstance (ad_cons (ed_var 0 rfl) (ad_cons (ed_ty (n := "int") (by rfl) B.«int» bb_int) ad_nil)) (bc_isi (c := "int") (by rfl) (by rfl))) (fun hb6 => (ed_and (ed_not (ed_callB (id := "isinstance") (by rfl) B.«isinstance» bb_isinstance (ad_cons (ed_var 0 rfl) (ad_cons (ed_ty (n := "bool") (by rfl) B.«bool» bb_bool) ad_nil)) (bc_isi (c := "bool") (by rfl) (by rfl)))) (fun hb5 => (ed_one (ed_cmp (ed_var 0 rfl) (ed_var 1 rfl) (by walk_at "c2"))))))) ?_) (Or.inl rfl))
          rw [decide_eq_true (rfl : i = i)]
          rfl
        · skip
          cases hc4
abbrev s_law_like_str : Stmt := top 34
theorem sc_law_like_str : FnScope ["actual", "due", "k"] ["actual", "due"] (defScope s_law_like_str) := ⟨rfl, rfl, rfl, by decide +kernel, rfl, by decide +kernel, by decide +kernel⟩
theorem ok_law_like_str {f : Addr} {fd : FuncData} (F : Fun K "_law_like" "_law_like" s_law_like_str f fd) (B : Bt mg) (KC : Kt K mg) (KL : Lt K mg) (XF : Xt K mg)  :
    FnOk P w K mg base CX0 2 f fd ["actual", "due"] (spR K R_law_like_str) := by
  refine fn_ok (k := 1) F sc_law_like_str (fun ds d h => by cases h <;> rfl) fun ds d hR cdv A outer s H E hr => ?_
  have nd := sc_law_like_str.nd
  have hu := hr.units
  rcases hR with ⟨z⟩
  walk_at "en"
  refine ws_cons (ws_if (td_cmp (ed_var 1 rfl) ed_non (by walk_at "c2")) (fun hc1 => ?_) (fun hc1 => ?_))
  · skip
    cases hc1
  · skip
    clear hc1
    refine ws_nil ?_
    refine ws_cons (ws_if (td_truth (ed_callB (id := "isinstance") (by rfl) B.«isinstance» bb_isinstance (ad_cons (ed_var 1 rfl) (ad_cons (ed_ty (n := "bool") (by rfl) B.«bool» bb_bool) ad_nil)) (bc_isi (c := "bool") (by rfl) (by rfl))) rfl) (fun hc2 => ?_) (fun hc2 => ?_))
    · skip
      cases hc2
    · skip
      clear hc2
      refine ws_nil ?_
      refine ws_cons (ws_if (td_truth (ed_callB (id := "isinstance") (by rfl) B.«isinstance» bb_isinstance (ad_cons (ed_var 1 rfl) (ad_cons (ed_ty (n := "str") (by rfl) B.«str» bb_str) ad_nil)) (bc_isi (c := "str") (by rfl) (by rfl))) rfl) (fun hc3 => ?_) (fun hc3 => ?_))
      · skip
        clear hc3
        refine ws_cons (ws_ret (ED.eq (ed_and (ed_callB (id := "isinstance") (by rfl) B.«isinstance» bb_isinstance (ad_cons (ed_var 0 rfl) (ad_cons (ed_ty (n := "str") (by rfl) B.«str» bb_str) ad_nil)) (bc_isi (c := "str") (by rfl) (by rfl))) (fun hb4 => (ed_one (ed_cmp (ed_var 0 rfl) (ed_var 1 rfl) (by walk_at "c2"))))) ?_) (Or.inl rfl))
        rw [decide_eq_true (rfl : z = z)]
        rfl
      · skip
        cases hc3
abbrev s_law_like_m1 : Stmt := top 34
theorem sc_law_like_m1 : FnScope ["actual", "due", "k"] ["actual", "due"] (defScope s_law_like_m1) := ⟨rfl, rfl, rfl, by decide +kernel, rfl, by decide +kernel, by decide +kernel⟩
theorem ok_law_like_m1 {f : Addr} {fd : FuncData} (F : Fun K "_law_like" "_law_like" s_law_like_m1 f fd) (B : Bt mg) (KC : Kt K mg) (KL : Lt K mg) (XF : Xt K mg) (G_law_like_int : Fn P w K mg base "_law_like" 1 R_law_like_int) (G_law_like_str : Fn P w K mg base "_law_like" 2 R_law_like_str) :
    FnOk P w K mg base CX0 3 f fd ["actual", "due"] (spR K R_law_like_m1) := by
  refine fn_ok (k := 2) F sc_law_like_m1 (fun ds d h => by cases h <;> rfl) fun ds d hR cdv A outer s H E hr => ?_
  have nd := sc_law_like_m1.nd
  have hu := hr.units
  rcases hR with ⟨ds, hn, hlf⟩
  walk_at "en"
  refine ws_cons (ws_if (td_cmp (ed_var 1 rfl) ed_non (by walk_at "c2")) (fun hc1 => ?_) (fun hc1 => ?_))
  · skip
    cases hc1
  · skip
    clear hc1
    refine ws_nil ?_
    refine ws_cons (ws_if (td_truth (ed_callB (id := "isinstance") (by rfl) B.«isinstance» bb_isinstance (ad_cons (ed_var 1 rfl) (ad_cons (ed_ty (n := "bool") (by rfl) B.«bool» bb_bool) ad_nil)) (bc_isi (c := "bool") (by rfl) (by rfl))) rfl) (fun hc2 => ?_) (fun hc2 => ?_))
    · skip
      cases hc2
    · skip
      clear hc2
      refine ws_nil ?_
      refine ws_cons (ws_if (td_truth (ed_callB (id := "isinstance") (by rfl) B.«isinstance» bb_isinstance (ad_cons (ed_var 1 rfl) (ad_cons (ed_ty (n := "str") (by rfl) B.«str» bb_str) ad_nil)) (bc_isi (c := "str") (by rfl) (by rfl))) rfl) (fun hc3 => ?_) (fun hc3 => ?_))
      · skip
        cases hc3
      · skip
        clear hc3
        refine ws_nil ?_
        refine ws_cons (ws_if (td_truth (ed_callB (id := "isinstance") (by rfl) B.«isinstance» bb_isinstance (ad_cons (ed_var 1 rfl) (ad_cons (ed_ty (n := "int") (by rfl) B.«int» bb_int) ad_nil)) (bc_isi (c := "int") (by rfl) (by rfl))) rfl) (fun hc4 => ?_) (fun hc4 => ?_))
        · skip
          cases hc4
        · skip
          clear hc4
          refine ws_nil ?_
          refine ws_cons (ws_if (td_tw (tw_or (td_cmp (ed_callB (id := "isinstance") (by rfl) B.«isinstance» bb_isinstance (ad_cons (ed_var 1 rfl) (ad_cons (ed_ty (n := "list") (by rfl) B.«list» bb_list) ad_nil)) (bc_isi (c := "list") (by rfl) (by rfl))) (ed_callB (id := "isinstance") (by rfl) B.«isinstance» bb_isinstance (ad_cons (ed_var 0 rfl) (ad_cons (ed_ty (n := "list") (by rfl) B.«list» bb_list) ad_nil)) (bc_isi (c := "list") (by rfl) (by rfl))) (by walk_at "c2")) (fun hb6 => (tw_or1 (td_cmp (ed_callB (id := "isinstance") (by rfl) B.«isinstance» bb_isinstance (ad_cons (ed_var 1 rfl) (ad_cons (ed_ty (n := "tuple") (by rfl) B.«tuple» bb_tuple) ad_nil)) (bc_isi (c := "tuple") (by rfl) (by rfl))) (ed_callB (id := "isinstance") (by rfl) B.«isinstance» bb_isinstance (ad_cons (ed_var 0 rfl) (ad_cons (ed_ty (n := "tuple") (by rfl) B.«tuple» bb_tuple) ad_nil)) (bc_isi (c := "tuple") (by rfl) (by rfl))) (by walk_at "c2")))))) (fun hc5 => ?_) (fun hc5 => ?_))
          · skip
            exact absurd hc5 (by decide)
          · skip
            clear hc5
            refine ws_nil ?_
            refine ws_cons (ws_if (td_cmp (ed_callB (id := "len") (by rfl) B.«len» bb_len (ad_cons (ed_var 0 rfl) ad_nil) (by walk_at "bc")) (ed_callB (id := "len") (by rfl) B.«len» bb_len (ad_cons (ed_var 1 rfl) ad_nil) (by walk_at "bc")) (by walk_at "c2")) (fun hc7 => ?_) (fun hc7 => ?_))
            · skip
              exfalso; simp at hc7
            · skip
              clear hc7
              refine ws_nil ?_
              refine ws_cons (ws_ret (ED.eq (ed_callB (id := "all") (by rfl) B.«all» bb_all (ad_cons (ed_lst (eo_map2 [("k", 2)] (List.range ds.length) (fun (i : Nat) => D.int (i : Int)) (fun _ => true) (D.bl) rfl nd (blkOk_by (N := ["actual", "due", "k"]) (sc := defScope s_law_like_m1) (by decide +kernel)) (id_range1 (by rfl) B.«range» (ed_callB (id := "len") (by rfl) B.«len» bb_len (ad_cons (ed_var 1 rfl) ad_nil) (by walk_at "bc")) (by omega)) (by rw [Int.toNat_natCast]; exact rngD0 _) (fun x hxm => by have hx2 := List.mem_range.mp hxm; exact ⟨_, by rfl, fun _ _ _ _ _ => ⟨(dg_name 2 nd), tds_nil, (by rcases md_cases (hlf _ (List.getElem_mem hx2)) with ⟨i, e⟩ | ⟨z, e⟩ <;> first | exact (ed_call G_law_like_int (hr.mono (by decide)) (by rfl) (ad_cons (ed_ix (d := ds[x]) (ed_var 0 rfl) (ed_var 2 rfl) (.t (atI_nat (by simp [hx2])))) (ad_cons (ed_ix (d := ds[x]) (ed_var 1 rfl) (ed_var 2 rfl) (.t (atI_nat (by simp [hx2])))) ad_nil)) (by rw [e]; exact .mk _)) | exact (ed_call G_law_like_str (hr.mono (by decide)) (by rfl) (ad_cons (ed_ix (d := ds[x]) (ed_var 0 rfl) (ed_var 2 rfl) (.t (atI_nat (by simp [hx2])))) (ad_cons (ed_ix (d := ds[x]) (ed_var 1 rfl) (ed_var 2 rfl) (.t (atI_nat (by simp [hx2])))) ad_nil)) (by rw [e]; exact .mk _)) )⟩⟩) (by rw [List.length_range, sizeLine_eq]; omega))) ad_nil) (bc_all rfl)) ?_) (Or.inl rfl))
              simp
abbrev s_law_like_m2 : Stmt := top 34
theorem sc_law_like_m2 : FnScope ["actual", "due", "k"] ["actual", "due"] (defScope s_law_like_m2) := ⟨rfl, rfl, rfl, by decide +kernel, rfl, by decide +kernel, by decide +kernel⟩
theorem ok_law_like_m2 {f : Addr} {fd : FuncData} (F : Fun K "_law_like" "_law_like" s_law_like_m2 f fd) (B : Bt mg) (KC : Kt K mg) (KL : Lt K mg) (XF : Xt K mg) (G_law_like_int : Fn P w K mg base "_law_like" 1 R_law_like_int) (G_law_like_m1 : Fn P w K mg base "_law_like" 3 R_law_like_m1) (G_law_like_str : Fn P w K mg base "_law_like" 2 R_law_like_str) :
    FnOk P w K mg base CX0 4 f fd ["actual", "due"] (spR K R_law_like_m2) := by
  refine fn_ok (k := 3) F sc_law_like_m2 (fun ds d h => by cases h <;> rfl) fun ds d hR cdv A outer s H E hr => ?_
  have nd := sc_law_like_m2.nd
  have hu := hr.units
  rcases hR with ⟨ds, hn, hlf⟩
  walk_at "en"
  refine ws_cons (ws_if (td_cmp (ed_var 1 rfl) ed_non (by walk_at "c2")) (fun hc1 => ?_) (fun hc1 => ?_))
  · skip
    cases hc1
  · skip
    clear hc1
    refine ws_nil ?_
    refine ws_cons (ws_if (td_truth (ed_callB (id := "isinstance") (by rfl) B.«isinstance» bb_isinstance (ad_cons (ed_var 1 rfl) (ad_cons (ed_ty (n := "bool") (by rfl) B.«bool» bb_bool) ad_nil)) (bc_isi (c := "bool") (by rfl) (by rfl))) rfl) (fun hc2 => ?_) (fun hc2 => ?_))
    · skip
      cases hc2
    · skip
      clear hc2
      refine ws_nil ?_
      refine ws_cons (ws_if (td_truth (ed_callB (id := "isinstance") (by rfl) B.«isinstance» bb_isinstance (ad_cons (ed_var 1 rfl) (ad_cons (ed_ty (n := "str") (by rfl) B.«str» bb_str) ad_nil)) (bc_isi (c := "str") (by rfl) (by rfl))) rfl) (fun hc3 => ?_) (fun hc3 => ?_))
      · skip
        cases hc3
      · skip
        clear hc3
        refine ws_nil ?_
        refine ws_cons (ws_if (td_truth (ed_callB (id := "isinstance") (by rfl) B.«isinstance» bb_isinstance (ad_cons (ed_var 1 rfl) (ad_cons (ed_ty (n := "int") (by rfl) B.«int» bb_int) ad_nil)) (bc_isi (c := "int") (by rfl) (by rfl))) rfl) (fun hc4 => ?_) (fun hc4 => ?_))
        · skip
          cases hc4
        · skip
          clear hc4
          refine ws_nil ?_
          refine ws_cons (ws_if (td_tw (tw_or (td_cmp (ed_callB (id := "isinstance") (by rfl) B.«isinstance» bb_isinstance (ad_cons (ed_var 1 rfl) (ad_cons (ed_ty (n := "list") (by rfl) B.«list» bb_list) ad_nil)) (bc_isi (c := "list") (by rfl) (by rfl))) (ed_callB (id := "isinstance") (by rfl) B.«isinstance» bb_isinstance (ad_cons (ed_var 0 rfl) (ad_cons (ed_ty (n := "list") (by rfl) B.«list» bb_list) ad_nil)) (bc_isi (c := "list") (by rfl) (by rfl))) (by walk_at "c2")) (fun hb6 => (tw_or1 (td_cmp (ed_callB (id := "isinstance") (by rfl) B.«isinstance» bb_isinstance (ad_cons (ed_var 1 rfl) (ad_cons (ed_ty (n := "tuple") (by rfl) B.«tuple» bb_tuple) ad_nil)) (bc_isi (c := "tuple") (by rfl) (by rfl))) (ed_callB (id := "isinstance") (by rfl) B.«isinstance» bb_isinstance (ad_cons (ed_var 0 rfl) (ad_cons (ed_ty (n := "tuple") (by rfl) B.«tuple» bb_tuple) ad_nil)) (bc_isi (c := "tuple") (by rfl) (by rfl))) (by walk_at "c2")))))) (fun hc5 => ?_) (fun hc5 => ?_))
          · skip
            exact absurd hc5 (by decide)
          · skip
            clear hc5
            refine ws_nil ?_
            refine ws_cons (ws_if (td_cmp (ed_callB (id := "len") (by rfl) B.«len» bb_len (ad_cons (ed_var 0 rfl) ad_nil) (by walk_at "bc")) (ed_callB (id := "len") (by rfl) B.«len» bb_len (ad_cons (ed_var 1 rfl) ad_nil) (by walk_at "bc")) (by walk_at "c2")) (fun hc7 => ?_) (fun hc7 => ?_))
            · skip
              exfalso; simp at hc7
            · skip
              clear hc7
              refine ws_nil ?_
              refine ws_cons (ws_ret (ED.eq (ed_callB (id := "all") (by rfl) B.«all» bb_all (ad_cons (ed_lst (eo_map2 [("k", 2)] (List.range ds.length) (fun (i : Nat) => D.int (i : Int)) (fun _ => true) (D.bl) rfl nd (blkOk_by (N := ["actual", "due", "k"]) (sc := defScope s_law_like_m2) (by decide +kernel)) (id_range1 (by rfl) B.«range» (ed_callB (id := "len") (by rfl) B.«len» bb_len (ad_cons (ed_var 1 rfl) ad_nil) (by walk_at "bc")) (by omega)) (by rw [Int.toNat_natCast]; exact rngD0 _) (fun x hxm => by have hx2 := List.mem_range.mp hxm; exact ⟨_, by rfl, fun _ _ _ _ _ => ⟨(dg_name 2 nd), tds_nil, (by rcases md_cases (hlf _ (List.getElem_mem hx2)) with ⟨i, e⟩ | ⟨z, e⟩ | ⟨es, e, e2, e3⟩ <;> first | exact (ed_call G_law_like_int (hr.mono (by decide)) (by rfl) (ad_cons (ed_ix (d := ds[x]) (ed_var 0 rfl) (ed_var 2 rfl) (.t (atI_nat (by simp [hx2])))) (ad_cons (ed_ix (d := ds[x]) (ed_var 1 rfl) (ed_var 2 rfl) (.t (atI_nat (by simp [hx2])))) ad_nil)) (by rw [e]; exact .mk _)) | exact (ed_call G_law_like_str (hr.mono (by decide)) (by rfl) (ad_cons (ed_ix (d := ds[x]) (ed_var 0 rfl) (ed_var 2 rfl) (.t (atI_nat (by simp [hx2])))) (ad_cons (ed_ix (d := ds[x]) (ed_var 1 rfl) (ed_var 2 rfl) (.t (atI_nat (by simp [hx2])))) ad_nil)) (by rw [e]; exact .mk _)) | exact (ed_call G_law_like_m1 (hr.mono (by decide)) (by rfl) (ad_cons (ed_ix (d := ds[x]) (ed_var 0 rfl) (ed_var 2 rfl) (.t (atI_nat (by simp [hx2])))) (ad_cons (ed_ix (d := ds[x]) (ed_var 1 rfl) (ed_var 2 rfl) (.t (atI_nat (by simp [hx2])))) ad_nil)) (by rw [e]; exact .mk _ e2 e3)))⟩⟩) (by rw [List.length_range, sizeLine_eq]; omega))) ad_nil) (bc_all rfl)) ?_) (Or.inl rfl))
              simp
abbrev s_law_like_m3 : Stmt := top 34
theorem sc_law_like_m3 : FnScope ["actual", "due", "k"] ["actual", "due"] (defScope s_law_like_m3) := ⟨rfl, rfl, rfl, by decide +kernel, rfl, by decide +kernel, by decide +kernel⟩
theorem ok_law_like_m3 {f : Addr} {fd : FuncData} (F : Fun K "_law_like" "_law_like" s_law_like_m3 f fd) (B : Bt mg) (KC : Kt K mg) (KL : Lt K mg) (XF : Xt K mg) (G_law_like_int : Fn P w K mg base "_law_like" 1 R_law_like_int) (G_law_like_m2 : Fn P w K mg base "_law_like" 4 R_law_like_m2) (G_law_like_str : Fn P w K mg base "_law_like" 2 R_law_like_str) :
    FnOk P w K mg base CX0 5 f fd ["actual", "due"] (spR K R_law_like_m3) := by
  refine fn_ok (k := 4) F sc_law_like_m3 (fun ds d h => by cases h <;> rfl) fun ds d hR cdv A outer s H E hr => ?_
  have nd := sc_law_like_m3.nd
  have hu := hr.units
  rcases hR with ⟨ds, hn, hlf⟩
  walk_at "en"
  refine ws_cons (ws_if (td_cmp (ed_var 1 rfl) ed_non (by walk_at "c2")) (fun hc1 => ?_) (fun hc1 => ?_))
  · skip
    cases hc1
  · skip
    clear hc1
    refine ws_nil ?_
    refine ws_cons (ws_if (td_truth (ed_callB (id := "isinstance") (by rfl) B.«isinstance» bb_isinstance (ad_cons (ed_var 1 rfl) (ad_cons (ed_ty (n := "bool") (by rfl) B.«bool» bb_bool) ad_nil)) (bc_isi (c := "bool") (by rfl) (by rfl))) rfl) (fun hc2 => ?_) (fun hc2 => ?_))
    · skip
      cases hc2
    · skip
      clear hc2
      refine ws_nil ?_
      refine ws_cons (ws_if (td_truth (ed_callB (id := "isinstance") (by rfl) B.«isinstance» bb_isinstance (ad_cons (ed_var 1 rfl) (ad_cons (ed_ty (n := "str") (by rfl) B.«str» bb_str) ad_nil)) (bc_isi (c := "str") (by rfl) (by rfl))) rfl) (fun hc3 => ?_) (fun hc3 => ?_))
      · skip
        cases hc3
      · skip
        clear hc3
        refine ws_nil ?_
        refine ws_cons (ws_if (td_truth (ed_callB (id := "isinstance") (by rfl) B.«isinstance» bb_isinstance (ad_cons (ed_var 1 rfl) (ad_cons (ed_ty (n := "int") (by rfl) B.«int» bb_int) ad_nil)) (bc_isi (c := "int") (by rfl) (by rfl))) rfl) (fun hc4 => ?_) (fun hc4 => ?_))
        · skip
          cases hc4
        · skip
          clear hc4
          refine ws_nil ?_
          refine ws_cons (ws_if (td_tw (tw_or (td_cmp (ed_callB (id := "isinstance") (by rfl) B.«isinstance» bb_isinstance (ad_cons (ed_var 1 rfl) (ad_cons (ed_ty (n := "list") (by rfl) B.«list» bb_list) ad_nil)) (bc_isi (c := "list") (by rfl) (by rfl))) (ed_callB (id := "isinstance") (by rfl) B.«isinstance» bb_isinstance (ad_cons (ed_var 0 rfl) (ad_cons (ed_ty (n := "list") (by rfl) B.«list» bb_list) ad_nil)) (bc_isi (c := "list") (by rfl) (by rfl))) (by walk_at "c2")) (fun hb6 => (tw_or1 (td_cmp (ed_callB (id := "isinstance") (by rfl) B.«isinstance» bb_isinstance (ad_cons (ed_var 1 rfl) (ad_cons (ed_ty (n := "tuple") (by rfl) B.«tuple» bb_tuple) ad_nil)) (bc_isi (c := "tuple") (by rfl) (by rfl))) (ed_callB (id := "isinstance") (by rfl) B.«isinstance» bb_isinstance (ad_cons (ed_var 0 rfl) (ad_cons (ed_ty (n := "tuple") (by rfl) B.«tuple» bb_tuple) ad_nil)) (bc_isi (c := "tuple") (by rfl) (by rfl))) (by walk_at "c2")))))) (fun hc5 => ?_) (fun hc5 => ?_))
          · skip
            exact absurd hc5 (by decide)
          · skip
            clear hc5
            refine ws_nil ?_
            refine ws_cons (ws_if (td_cmp (ed_callB (id := "len") (by rfl) B.«len» bb_len (ad_cons (ed_var 0 rfl) ad_nil) (by walk_at "bc")) (ed_callB (id := "len") (by rfl) B.«len» bb_len (ad_cons (ed_var 1 rfl) ad_nil) (by walk_at "bc")) (by walk_at "c2")) (fun hc7 => ?_) (fun hc7 => ?_))
            · skip
              exfalso; simp at hc7
            · skip
              clear hc7
              refine ws_nil ?_
              refine ws_cons (ws_ret (ED.eq (ed_callB (id := "all") (by rfl) B.«all» bb_all (ad_cons (ed_lst (eo_map2 [("k", 2)] (List.range ds.length) (fun (i : Nat) => D.int (i : Int)) (fun _ => true) (D.bl) rfl nd (blkOk_by (N := ["actual", "due", "k"]) (sc := defScope s_law_like_m3) (by decide +kernel)) (id_range1 (by rfl) B.«range» (ed_callB (id := "len") (by rfl) B.«len» bb_len (ad_cons (ed_var 1 rfl) ad_nil) (by walk_at "bc")) (by omega)) (by rw [Int.toNat_natCast]; exact rngD0 _) (fun x hxm => by have hx2 := List.mem_range.mp hxm; exact ⟨_, by rfl, fun _ _ _ _ _ => ⟨(dg_name 2 nd), tds_nil, (by rcases md_cases (hlf _ (List.getElem_mem hx2)) with ⟨i, e⟩ | ⟨z, e⟩ | ⟨es, e, e2, e3⟩ <;> first | exact (ed_call G_law_like_int (hr.mono (by decide)) (by rfl) (ad_cons (ed_ix (d := ds[x]) (ed_var 0 rfl) (ed_var 2 rfl) (.t (atI_nat (by simp [hx2])))) (ad_cons (ed_ix (d := ds[x]) (ed_var 1 rfl) (ed_var 2 rfl) (.t (atI_nat (by simp [hx2])))) ad_nil)) (by rw [e]; exact .mk _)) | exact (ed_call G_law_like_str (hr.mono (by decide)) (by rfl) (ad_cons (ed_ix (d := ds[x]) (ed_var 0 rfl) (ed_var 2 rfl) (.t (atI_nat (by simp [hx2])))) (ad_cons (ed_ix (d := ds[x]) (ed_var 1 rfl) (ed_var 2 rfl) (.t (atI_nat (by simp [hx2])))) ad_nil)) (by rw [e]; exact .mk _)) | exact (ed_call G_law_like_m2 (hr.mono (by decide)) (by rfl) (ad_cons (ed_ix (d := ds[x]) (ed_var 0 rfl) (ed_var 2 rfl) (.t (atI_nat (by simp [hx2])))) (ad_cons (ed_ix (d := ds[x]) (ed_var 1 rfl) (ed_var 2 rfl) (.t (atI_nat (by simp [hx2])))) ad_nil)) (by rw [e]; exact .mk _ e2 e3)))⟩⟩) (by rw [List.length_range, sizeLine_eq]; omega))) ad_nil) (bc_all rfl)) ?_) (Or.inl rfl))
              simp
abbrev s_law_like_m4 : Stmt := top 34
theorem sc_law_like_m4 : FnScope ["actual", "due", "k"] ["actual", "due"] (defScope s_law_like_m4) := ⟨rfl, rfl, rfl, by decide +kernel, rfl, by decide +kernel, by decide +kernel⟩
theorem ok_law_like_m4 {f : Addr} {fd : FuncData} (F : Fun K "_law_like" "_law_like" s_law_like_m4 f fd) (B : Bt mg) (KC : Kt K mg) (KL : Lt K mg) (XF : Xt K mg) (G_law_like_int : Fn P w K mg base "_law_like" 1 R_law_like_int) (G_law_like_m3 : Fn P w K mg base "_law_like" 5 R_law_like_m3) (G_law_like_str : Fn P w K mg base "_law_like" 2 R_law_like_str) :
    FnOk P w K mg base CX0 6 f fd ["actual", "due"] (spR K R_law_like_m4) := by
  refine fn_ok (k := 5) F sc_law_like_m4 (fun ds d h => by cases h <;> rfl) fun ds d hR cdv A outer s H E hr => ?_
  have nd := sc_law_like_m4.nd
  have hu := hr.units
  rcases hR with ⟨ds, hn, hlf⟩
  walk_at "en"
  refine ws_cons (ws_if (td_cmp (ed_var 1 rfl) ed_non (by walk_at "c2")) (fun hc1 => ?_) (fun hc1 => ?_))
  · skip
    cases hc1
  · skip
    clear hc1
    refine ws_nil ?_
    refine ws_cons (ws_if (td_truth (ed_callB (id := "isinstance") (by rfl) B.«isinstance» bb_isinstance (ad_cons (ed_var 1 rfl) (ad_cons (ed_ty (n := "bool") (by rfl) B.«bool» bb_bool) ad_nil)) (bc_isi (c := "bool") (by rfl) (by rfl))) rfl) (fun hc2 => ?_) (fun hc2 => ?_))
    · skip
      cases hc2
    · skip
      clear hc2
      refine ws_nil ?_
      refine ws_cons (ws_if (td_truth (ed_callB (id := "isinstance") (by rfl) B.«isinstance» bb_isinstance (ad_cons (ed_var 1 rfl) (ad_cons (ed_ty (n := "str") (by rfl) B.«str» bb_str) ad_nil)) (bc_isi (c := "str") (by rfl) (by rfl))) rfl) (fun hc3 => ?_) (fun hc3 => ?_))
      · skip
        cases hc3
      · skip
        clear hc3
        refine ws_nil ?_
        refine ws_cons (ws_if (td_truth (ed_callB (id := "isinstance") (by rfl) B.«isinstance» bb_isinstance (ad_cons (ed_var 1 rfl) (ad_cons (ed_ty (n := "int") (by rfl) B.«int» bb_int) ad_nil)) (bc_isi (c := "int") (by rfl) (by rfl))) rfl) (fun hc4 => ?_) (fun hc4 => ?_))
        · skip
          cases hc4
        · skip
          clear hc4
          refine ws_nil ?_
          refine ws_cons (ws_if (td_tw (tw_or (td_cmp (ed_callB (id := "isinstance") (by rfl) B.«isinstance» bb_isinstance (ad_cons (ed_var 1 rfl) (ad_cons (ed_ty (n := "list") (by rfl) B.«list» bb_list) ad_nil)) (bc_isi (c := "list") (by rfl) (by rfl))) (ed_callB (id := "isinstance") (by rfl) B.«isinstance» bb_isinstance (ad_cons (ed_var 0 rfl) (ad_cons (ed_ty (n := "list") (by rfl) B.«list» bb_list) ad_nil)) (bc_isi (c := "list") (by rfl) (by rfl))) (by walk_at "c2")) (fun hb6 => (tw_or1 (td_cmp (ed_callB (id := "isinstance") (by rfl) B.«isinstance» bb_isinstance (ad_cons (ed_var 1 rfl) (ad_cons (ed_ty (n := "tuple") (by rfl) B.«tuple» bb_tuple) ad_nil)) (bc_isi (c := "tuple") (by rfl) (by rfl))) (ed_callB (id := "isinstance") (by rfl) B.«isinstance» bb_isinstance (ad_cons (ed_var 0 rfl) (ad_cons (ed_ty (n := "tuple") (by rfl) B.«tuple» bb_tuple) ad_nil)) (bc_isi (c := "tuple") (by rfl) (by rfl))) (by walk_at "c2")))))) (fun hc5 => ?_) (fun hc5 => ?_))
          · skip
            exact absurd hc5 (by decide)
          · skip
            clear hc5
            refine ws_nil ?_
            refine ws_cons (ws_if (td_cmp (ed_callB (id := "len") (by rfl) B.«len» bb_len (ad_cons (ed_var 0 rfl) ad_nil) (by walk_at "bc")) (ed_callB (id := "len") (by rfl) B.«len» bb_len (ad_cons (ed_var 1 rfl) ad_nil) (by walk_at "bc")) (by walk_at "c2")) (fun hc7 => ?_) (fun hc7 => ?_))
            · skip
              exfalso; simp at hc7
            · skip
              clear hc7
              refine ws_nil ?_
              refine ws_cons (ws_ret (ED.eq (ed_callB (id := "all") (by rfl) B.«all» bb_all (ad_cons (ed_lst (eo_map2 [("k", 2)] (List.range ds.length) (fun (i : Nat) => D.int (i : Int)) (fun _ => true) (D.bl) rfl nd (blkOk_by (N := ["actual", "due", "k"]) (sc := defScope s_law_like_m4) (by decide +kernel)) (id_range1 (by rfl) B.«range» (ed_callB (id := "len") (by rfl) B.«len» bb_len (ad_cons (ed_var 1 rfl) ad_nil) (by walk_at "bc")) (by omega)) (by rw [Int.toNat_natCast]; exact rngD0 _) (fun x hxm => by have hx2 := List.mem_range.mp hxm; exact ⟨_, by rfl, fun _ _ _ _ _ => ⟨(dg_name 2 nd), tds_nil, (by rcases md_cases (hlf _ (List.getElem_mem hx2)) with ⟨i, e⟩ | ⟨z, e⟩ | ⟨es, e, e2, e3⟩ <;> first | exact (ed_call G_law_like_int (hr.mono (by decide)) (by rfl) (ad_cons (ed_ix (d := ds[x]) (ed_var 0 rfl) (ed_var 2 rfl) (.t (atI_nat (by simp [hx2])))) (ad_cons (ed_ix (d := ds[x]) (ed_var 1 rfl) (ed_var 2 rfl) (.t (atI_nat (by simp [hx2])))) ad_nil)) (by rw [e]; exact .mk _)) | exact (ed_call G_law_like_str (hr.mono (by decide)) (by rfl) (ad_cons (ed_ix (d := ds[x]) (ed_var 0 rfl) (ed_var 2 rfl) (.t (atI_nat (by simp [hx2])))) (ad_cons (ed_ix (d := ds[x]) (ed_var 1 rfl) (ed_var 2 rfl) (.t (atI_nat (by simp [hx2])))) ad_nil)) (by rw [e]; exact .mk _)) | exact (ed_call G_law_like_m3 (hr.mono (by decide)) (by rfl) (ad_cons (ed_ix (d := ds[x]) (ed_var 0 rfl) (ed_var 2 rfl) (.t (atI_nat (by simp [hx2])))) (ad_cons (ed_ix (d := ds[x]) (ed_var 1 rfl) (ed_var 2 rfl) (.t (atI_nat (by simp [hx2])))) ad_nil)) (by rw [e]; exact .mk _ e2 e3)))⟩⟩) (by rw [List.length_range, sizeLine_eq]; omega))) ad_nil) (bc_all rfl)) ?_) (Or.inl rfl))
              simp
abbrev s_law_qmeets : Stmt := top 35
theorem sc_law_qmeets : FnScope ["box", "window"] ["box", "window"] (defScope s_law_qmeets) := ⟨rfl, rfl, rfl, by decide +kernel, rfl, by decide +kernel, by decide +kernel⟩
theorem ok_law_qmeets {f : Addr} {fd : FuncData} (F : Fun K "_law_qmeets" "_law_qmeets" s_law_qmeets f fd) (B : Bt mg) (KC : Kt K mg) (KL : Lt K mg) (XF : Xt K mg)  :
    FnOk P w K mg base CX0 1 f fd ["box", "window"] (spR K R_law_qmeets) := by
  refine fn_ok (k := 0) F sc_law_qmeets (fun ds d h => by cases h <;> rfl) fun ds d hR cdv A outer s H E hr => ?_
  have nd := sc_law_qmeets.nd
  have hu := hr.units
  rcases hR with ⟨b, w⟩
  walk_at "en"
  refine ws_cons (ws_ret (ED.eq (ed_and (ed_cmp (ed_ix (ed_var 0 rfl) ed_int (by walk_at "ix")) (ed_ix (ed_var 1 rfl) ed_int (by walk_at "ix")) (by walk_at "c2")) (fun hb3 => (ed_and (ed_cmp (ed_ix (ed_var 1 rfl) ed_int (by walk_at "ix")) (ed_ix (ed_var 0 rfl) ed_int (by walk_at "ix")) (by walk_at "c2")) (fun hb2 => (ed_and (ed_cmp (ed_ix (ed_var 0 rfl) ed_int (by walk_at "ix")) (ed_ix (ed_var 1 rfl) ed_int (by walk_at "ix")) (by walk_at "c2")) (fun hb1 => (ed_one (ed_cmp (ed_ix (ed_var 1 rfl) ed_int (by walk_at "ix")) (ed_ix (ed_var 0 rfl) ed_int (by walk_at "ix")) (by walk_at "c2"))))))))) ?_) (Or.inl rfl))
  rfl
abbrev s_law_qstore_is : Stmt := top 36
theorem sc_law_qstore_is : FnScope ["store", "rows", "windows", "numbers", "number", "layer", "window", "due", "x", "y"] ["store", "rows", "windows"] (defScope s_law_qstore_is) := ⟨rfl, rfl, rfl, by decide +kernel, rfl, by decide +kernel, by decide +kernel⟩
theorem ok_law_qstore_is {f : Addr} {fd : FuncData} (F : Fun K "_law_qstore_is" "_law_qstore_is" s_law_qstore_is f fd) (B : Bt mg) (KC : Kt K mg) (KL : Lt K mg) (XF : Xt K mg) (G_Store_len : FnM P w K mg base "Store" "__len__" 1 R_Store_len) (G_Store_find : FnML P w K mg base "Store" "find" 15 R_Store_find) (G_Store_find_square : FnML P w K mg base "Store" "find_square" 16 R_Store_find_square) (G_Store_numbers : FnMO P w K mg base "Store" "numbers" 1 R_Store_numbers) (G_Store_shape : FnM P w K mg base "Store" "shape" 1 R_Store_shape) (G_law_in : Fn P w K mg base "_law_in" 1 R_law_in) (G_law_is_list : Fn P w K mg base "_law_is_list" 3 R_law_is_list) (G_law_is_number : Fn P w K mg base "_law_is_number" 2 R_law_is_number) (G_law_like_m4 : Fn P w K mg base "_law_like" 6 R_law_like_m4) (G_law_qmeets : Fn P w K mg base "_law_qmeets" 1 R_law_qmeets) :
    FnOk P w K mg base CX0 17 f fd ["store", "rows", "windows"] (spL K R_law_qstore_is) := by
  refine fn_okL (k := 16) F sc_law_qstore_is (fun a cs ds Ψ h => by cases h <;> rfl) fun a0 cs0 ds Ψ hR cdv A outer s H E hr => ?_
  have nd := sc_law_qstore_is.nd
  have hu := hr.units
  rcases hR with ⟨A, S, ok, T, p, vT, W, hW, hWl⟩
  have ndT : (T.map (·.1)).Nodup := ((p.map _).nodup_iff).mpr ok.sn
  have hTl : T.length ≤ 40 := by rw [p.length_eq]; exact ok.shl
  have hnl : (srtI (T.map (·.1))).length = S.sh.length := by rw [(srtI_perm _).length_eq, List.length_map, p.length_eq]
  have hSl9 := ok.shl
  walk_at "en"
  refine ws_cons (ws_setO 3 nd (eo_callB (id := "sorted") (by rfl) B.«sorted» bb_sorted (ad_cons (ED.eq (d' := .dk ((T.map (·.1)).map Sum.inl) (T.map dSx)) (ed_var 1 rfl) (by rw [List.map_map]; rfl)) ad_nil) (bo_sortedDI rfl (by rw [List.length_map]; omega))) ?_)
  refine ws_share 3 rfl ?_
  walk_at "env"
  refine ws_cons (ws_if (td_show 0 (stO S) rfl (fun _ _ v h r => st_show (S := S) v h r) (td_tw (tw_or (td_not (td_truth (ed_call G_law_is_number (hr.mono (by decide)) (by rfl) (ad_cons (ed_callB (id := "len") (by rfl) B.«len» bb_len (ad_cons (ed_var 0 rfl) ad_nil) (by unfold stO; exact bc_lenObj G_Store_len (hr.mono (by decide)) (by have := R_Store_len.mk S; unfold stO at this; exact this) ⟨by omega, by omega⟩)) (ad_cons (ed_callB (id := "len") (by rfl) B.«len» bb_len (ad_cons (ed_var 3 rfl) ad_nil) ((by walk_at "bc"))) ad_nil)) (by exact .mk _ _)) rfl)) (fun hb2 => (tw_or1 (td_not (td_truth (ed_call G_law_is_list (hr.mono (by decide)) (by rfl) (ad_cons (ED.eq (ed_own (eo_meth0 G_Store_numbers (hr.mono (by decide)) (ed_var 0 rfl) (by exact .mk S (by omega)))) (show _ = (D.lst ((srtI (T.map (·.1))).map D.int)) from by rw [← nums_eq p]; rfl)) (ad_cons (ed_var 3 rfl) ad_nil)) (by exact .mk _ (by omega))) rfl))))))) (fun hc1 => ?_) (fun hc1 => ?_))
  · skip
    exfalso; rw [List.length_map, hnl] at hc1; simp at hc1
  · skip
    clear hc1
    refine ws_nil ?_
    refine ws_cons (ws_forU (srtI (T.map (·.1))) (D.int) rfl (id_list (ed_var 3 rfl)) (by rfl) (U := Sl) (fun i u => [(4, u)]) (fun r => (r.getD 4 .no)) (fun _ => True) (rfl) (True.intro) ?_ ?_)
    · intro i0 z u0 hx0 hP0
      have hxm := List.mem_of_getElem? hx0
      refine ⟨_, _, (dg_name 4 nd), ?_⟩
      walk_at "env"
      refine ws_cons (ws_if (td_show 0 (stO S) rfl (fun _ _ v h r => st_show (S := S) v h r) (td_not (td_truth (ed_call G_law_like_m4 (hr.mono (by decide)) (by rfl) (ad_cons (ed_meth G_Store_shape (hr.mono (by decide)) (ed_var 0 rfl) (ad_cons (ed_var 4 rfl) ad_nil) (.mk S ok z (lkT9 T z) (p.mem_iff.mp (lk_mem ndT hxm)))) (ad_cons (ed_dix hu (ed_var 1 rfl) (ed_var 4 rfl) (k0 := .inl z) (lookK_sx ndT (lk_mem ndT hxm))) ad_nil)) (.mk [.str (lkT9 T z).1, (lkT9 T z).2.e] (by simp) md_sh2)) rfl))) (fun hc3 => ?_) (fun hc3 => ?_))
      · skip
        exfalso; simp at hc3
      · skip
        clear hc3
        refine ws_nil ?_
        refine ws_nil ?_
        exact ⟨rfl, True.intro⟩
    · intro u0 hP0
      walk_at "env"
      refine ws_cons (ws_forX (W) (shE) rfl (id_list (ed_var 2 rfl)) (by rfl) (γ := StA × StS) (U := Sl × Sl × Sl × Sl × Sl) (fun i g u => [(0, .ox (stCs a0 g.1 g.2) (.ad a0)), (5, u.1), (6, u.2.1), (7, u.2.2.1), (8, u.2.2.2.1), (9, u.2.2.2.2)]) (fun r => (r.getD 5 .no, r.getD 6 .no, r.getD 7 .no, r.getD 8 .no, r.getD 9 .no)) (fun i g => StOk g.2 ∧ SamS S g.2) ((A, S)) rfl (⟨ok, sam_refl S⟩) ?_ ?_)
      · intro i1 q g1 u1 hx1 hP1
        have hq := hW q (List.mem_of_getElem? hx1)
        have hg := hP1.1
        have hg2 := hP1.2.sh
        refine ⟨_, _, (dg_tup rfl (dgs_cons (dg_name 5 nd) (dgs_cons (dg_name 6 nd) dgs_nil))), ?_⟩
        walk_at "env"
        refine ws_cons (ws_setFilter 7 [("number", 4)] (srtI (T.map (·.1))) (D.int) (fun z => decide ((lkT9 T z).1 = q.1) && hitB (lkT9 T z).2 q.2) (D.int) rfl nd (blkOk_by (N := ["store", "rows", "windows", "numbers", "number", "layer", "window", "due", "x", "y"]) (sc := defScope s_law_qstore_is) (by decide +kernel)) (id_list (ed_var 3 rfl)) (rfl) (fun z hxm => turn_if (fun hp4 => ⟨_, by rfl, fun _ _ _ _ _ => ⟨(dg_name 4 nd), tds_one (TD.eq (TD.eq (td_tw (tw_and (td_cmp (ed_ix (ed_dix hu (ed_var 1 rfl) (ed_var 4 rfl) (k0 := .inl z) (lookK_sx ndT (lk_mem ndT hxm))) ed_int (by walk_at "ix")) (ed_var 5 rfl) (by walk_at "c2")) (fun hb5 => (tw_and1 (td_truth (ed_call G_law_qmeets (hr.mono (by decide)) (by rfl) (ad_cons (ed_ix (ed_dix hu (ed_var 1 rfl) (ed_var 4 rfl) (k0 := .inl z) (lookK_sx ndT (lk_mem ndT hxm))) ed_int (by walk_at "ix")) (ad_cons (ed_var 6 rfl) ad_nil)) (by exact .mk _ _)) rfl))))) (by rw [hit_mt (lk_v ndT vT hxm) hq.2])) hp4), (ed_var 4 rfl)⟩⟩) (fun hp4 => ⟨_, by rfl, fun _ _ _ _ _ => ⟨(dg_name 4 nd), tds_one (TD.eq (TD.eq (td_tw (tw_and (td_cmp (ed_ix (ed_dix hu (ed_var 1 rfl) (ed_var 4 rfl) (k0 := .inl z) (lookK_sx ndT (lk_mem ndT hxm))) ed_int (by walk_at "ix")) (ed_var 5 rfl) (by walk_at "c2")) (fun hb6 => (tw_and1 (td_truth (ed_call G_law_qmeets (hr.mono (by decide)) (by rfl) (ad_cons (ed_ix (ed_dix hu (ed_var 1 rfl) (ed_var 4 rfl) (k0 := .inl z) (lookK_sx ndT (lk_mem ndT hxm))) ed_int (by walk_at "ix")) (ad_cons (ed_var 6 rfl) ad_nil)) (by exact .mk _ _)) rfl))))) (by rw [hit_mt (lk_v ndT vT hxm) hq.2])) hp4)⟩⟩)) (by rw [sizeLine_eq]; omega) ?_)
        refine ws_share 7 rfl ?_
        walk_at "env"
        refine ws_cons (ws_ifNotP (ep_callP2 (d0 := .bl true) G_law_is_list (hr.mono (by decide)) (by rfl) (ep_methW 0 G_Store_find (hr.mono (by decide)) rfl st_m0 (ed_varX 0 rfl) (ad_cons (ed_var 5 rfl) (ad_cons (ed_var 6 rfl) ad_nil)) (.mk a0 g1.1 g1.2 hg q.1 q.2 hq.1)) ?_) (fun _ _ h => h.1) ?_)
        · rintro _ _ ⟨_, ⟨A9, rfl, rfl⟩, rfl⟩
          exact ⟨_, ED.eq (ed_var 7 rfl) (show _ = D.lst ((fndSx g1.2.sh q.1 q.2).map .int) from by rw [fndSx_perm9 p hg2, ← fndSx_law ndT]), .mk _ (Nat.le_trans (fndSx_len g1.2.sh _ _) (by rw [hg2]; omega))⟩
        rintro _ _ ⟨_, _, _, ⟨A2, rfl, rfl⟩, rfl⟩
        refine ws_nil ?_
        walk_at "env"
        refine ws_cons (ws_unpack (ED.eq (ed_sliceT (ED.eq (ed_var 6 rfl) (show _ = D.tup [.int q.2.a, .int q.2.b, .int q.2.c, .int q.2.d] from rfl)) no_part (some_part ed_int)) (show _ = D.tup [.int q.2.a, .int q.2.b] from rfl)) (dg_tup rfl (dgs_cons (dg_name 8 nd) (dgs_cons (dg_name 9 nd) dgs_nil))) ?_)
        walk_at "env"
        refine ws_cons (ws_setFilter 7 [("number", 4)] (srtI (T.map (·.1))) (D.int) (fun z => decide ((lkT9 T z).1 = q.1) && hitB (lkT9 T z).2 ⟨q.2.a, q.2.b, q.2.a + 1, q.2.b + 1⟩) (D.int) rfl nd (blkOk_by (N := ["store", "rows", "windows", "numbers", "number", "layer", "window", "due", "x", "y"]) (sc := defScope s_law_qstore_is) (by decide +kernel)) (id_list (ed_var 3 rfl)) (rfl) (fun z hxm => turn_if (fun hp7 => ⟨_, by rfl, fun _ _ _ _ _ => ⟨(dg_name 4 nd), tds_one (TD.eq (TD.eq (td_tw (tw_and (td_cmp (ed_ix (ed_dix hu (ed_var 1 rfl) (ed_var 4 rfl) (k0 := .inl z) (lookK_sx ndT (lk_mem ndT hxm))) ed_int (by walk_at "ix")) (ed_var 5 rfl) (by walk_at "c2")) (fun hb8 => (tw_and1 (td_truth (ed_call G_law_in (hr.mono (by decide)) (by rfl) (ad_cons (ed_ix (ed_dix hu (ed_var 1 rfl) (ed_var 4 rfl) (k0 := .inl z) (lookK_sx ndT (lk_mem ndT hxm))) ed_int (by walk_at "ix")) (ad_cons (ed_var 8 rfl) (ad_cons (ed_var 9 rfl) ad_nil))) (by exact .mk _ _ _ _ _ _)) rfl))))) (by rw [hitB_sq (lk_v ndT vT hxm)])) hp7), (ed_var 4 rfl)⟩⟩) (fun hp7 => ⟨_, by rfl, fun _ _ _ _ _ => ⟨(dg_name 4 nd), tds_one (TD.eq (TD.eq (td_tw (tw_and (td_cmp (ed_ix (ed_dix hu (ed_var 1 rfl) (ed_var 4 rfl) (k0 := .inl z) (lookK_sx ndT (lk_mem ndT hxm))) ed_int (by walk_at "ix")) (ed_var 5 rfl) (by walk_at "c2")) (fun hb9 => (tw_and1 (td_truth (ed_call G_law_in (hr.mono (by decide)) (by rfl) (ad_cons (ed_ix (ed_dix hu (ed_var 1 rfl) (ed_var 4 rfl) (k0 := .inl z) (lookK_sx ndT (lk_mem ndT hxm))) ed_int (by walk_at "ix")) (ad_cons (ed_var 8 rfl) (ad_cons (ed_var 9 rfl) ad_nil))) (by exact .mk _ _ _ _ _ _)) rfl))))) (by rw [hitB_sq (lk_v ndT vT hxm)])) hp7)⟩⟩)) (by rw [sizeLine_eq]; omega) ?_)
        refine ws_share 7 rfl ?_
        walk_at "env"
        refine ws_cons (ws_ifNotP (ep_callP2 (d0 := .bl true) G_law_is_list (hr.mono (by decide)) (by rfl) (ep_methW 0 G_Store_find_square (hr.mono (by decide)) rfl st_m0 (ed_varX 0 rfl) (ad_cons (ed_var 5 rfl) (ad_cons (ed_var 8 rfl) (ad_cons (ed_var 9 rfl) ad_nil))) (.mk a0 A2 (g1.2.at q.1 (g1.2.ix q.1).fresh) (hg.fresh hq.1) q.1 q.2.a q.2.b hq.1)) ?_) (fun _ _ h => h.1) ?_)
        · rintro _ _ ⟨_, ⟨A9, rfl, rfl⟩, rfl⟩
          exact ⟨_, ED.eq (ed_var 7 rfl) (show _ = D.lst ((fndSx g1.2.sh q.1 ⟨q.2.a, q.2.b, q.2.a + 1, q.2.b + 1⟩).map .int) from by rw [fndSx_perm9 p hg2, ← fndSx_law ndT]), .mk _ (Nat.le_trans (fndSx_len g1.2.sh _ _) (by rw [hg2]; omega))⟩
        rintro _ _ ⟨_, _, _, ⟨A3, rfl, rfl⟩, rfl⟩
        refine ws_nil ?_
        walk_at "env"
        refine ws_nil ?_
        exact ⟨(A3, (g1.2.at q.1 (g1.2.ix q.1).fresh).at q.1 ((g1.2.at q.1 (g1.2.ix q.1).fresh).ix q.1).fresh), rfl, (hg.fresh hq.1).fresh hq.1, ⟨hP1.2.nb, hP1.2.sh, hP1.2.dn, hP1.2.un⟩⟩
      · intro g1 u1 hP1
        walk_at "env"
        refine ws_cons (ws_retC 0 ed_bl rfl (Or.inl ⟨_, _, rfl, ?_⟩))
        exact ⟨_, _, hP1.1, hP1.2, rfl, rfl⟩
abbrev s_law_qtry_us : Stmt := top 37
theorem sc_law_qtry_us : FnScope ["store", "kind", "number", "e"] ["store", "kind", "number"] (defScope s_law_qtry_us) := ⟨rfl, rfl, rfl, by decide +kernel, rfl, by decide +kernel, by decide +kernel⟩
theorem ok_law_qtry_us {f : Addr} {fd : FuncData} (F : Fun K "_law_qtry" "_law_qtry" s_law_qtry_us f fd) (B : Bt mg) (KC : Kt K mg) (KL : Lt K mg) (XF : Xt K mg)  (GX_Store_back_to : FnMXG P w K mg base "Store" "back_to" 4 RX_Store_back_to) (GX_Store_redo : FnMXG P w K mg base "Store" "redo" 4 RX_Store_redo) (GX_Store_undo : FnMXG P w K mg base "Store" "undo" 3 RX_Store_undo) :
    FnOk P w K mg base CX0 6 f fd ["store", "kind", "number"] (spR K R_law_qtry_us) := by
  refine fn_ok (k := 5) F sc_law_qtry_us (fun ds d h => by cases h <;> rfl) fun ds d hR cdv A outer s H E hr => ?_
  have nd := sc_law_qtry_us.nd
  have hu := hr.units
  
  walk_at "en"
  rcases hR with ⟨S, he⟩ | ⟨S, he⟩ | ⟨S, n, he, sm⟩
  · skip
    walk_at "en"
    refine ws_cons (ws_tryQG nd (fun pn xe po => ?_) (qatG_hit0 XF.«mU» (by rfl) (hdq_bare XF.«sUR».n (by rfl) (hdq_bare XF.«sUM».n (by rfl) (hdq_cons 3 XF.«sUS».n (by rfl) hdq_nil))) (fun ea eC eo pn ehC ehz ehf => ?_)))
    · skip
      refine xg_ife (td_cmp (ed_var 1 rfl) ed_int (by walk_at "c2")) (fun hc1 => ?_) (fun hc1 => ?_)
      · skip
        clear hc1
        exact xg_head (xg_expr (eg_meth0 GX_Store_undo (hr.mono (by decide)) (ed_var 0 rfl) (by exact .mk S he)))
      · skip
        exfalso; revert hc1; decide
    · skip
      try walk_at "env"
      refine ws_cons (ws_ret (ED.eq ed_int ?_) (Or.inl rfl))
      rfl
  · skip
    walk_at "en"
    refine ws_cons (ws_tryQG nd (fun pn xe po => ?_) (qatG_skip0 XF.«sRU» (by rfl) (qatG_hit0 XF.«mR» (by rfl) (hdq_bare XF.«sRM».n (by rfl) (hdq_cons 3 XF.«sRS».n (by rfl) hdq_nil)) (fun ea eC eo pn ehC ehz ehf => ?_))))
    · skip
      refine xg_ife (td_cmp (ed_var 1 rfl) ed_int (by walk_at "c2")) (fun hc2 => ?_) (fun hc2 => ?_)
      · skip
        exfalso; revert hc2; decide
      · skip
        clear hc2
        refine xg_ife (td_cmp (ed_var 1 rfl) ed_int (by walk_at "c2")) (fun hc3 => ?_) (fun hc3 => ?_)
        · skip
          clear hc3
          exact xg_head (xg_expr (eg_meth0 GX_Store_redo (hr.mono (by decide)) (ed_var 0 rfl) (by exact .mk S he)))
        · skip
          exfalso; revert hc3; decide
    · skip
      try walk_at "env"
      refine ws_cons (ws_ret (ED.eq ed_int ?_) (Or.inl rfl))
      rfl
  · skip
    walk_at "en"
    refine ws_cons (ws_tryQG nd (fun pn xe po => ?_) (qatG_skip0 XF.«sMU» (by rfl) (qatG_skip0 XF.«sMR» (by rfl) (qatG_hit0 XF.«mM» (by rfl) (hdq_cons 3 XF.«sMS».n (by rfl) hdq_nil) (fun ea eC eo pn ehC ehz ehf => ?_)))))
    · skip
      refine xg_ife (td_cmp (ed_var 1 rfl) ed_int (by walk_at "c2")) (fun hc4 => ?_) (fun hc4 => ?_)
      · skip
        exfalso; revert hc4; decide
      · skip
        clear hc4
        refine xg_ife (td_cmp (ed_var 1 rfl) ed_int (by walk_at "c2")) (fun hc5 => ?_) (fun hc5 => ?_)
        · skip
          exfalso; revert hc5; decide
        · skip
          clear hc5
          refine xg_ife (td_cmp (ed_var 1 rfl) ed_int (by walk_at "c2")) (fun hc6 => ?_) (fun hc6 => ?_)
          · skip
            clear hc6
            exact xg_head (xg_expr (eg_meth GX_Store_back_to (hr.mono (by decide)) (ed_var 0 rfl) (ad_cons (ed_var 2 rfl) ad_nil) (by exact .mk S n he sm)))
          · skip
            exfalso; revert hc6; decide
    · skip
      try walk_at "env"
      refine ws_cons (ws_ret (ED.eq ed_int ?_) (Or.inl rfl))
      rfl
abbrev s_law_qtry_ul : Stmt := top 37
theorem sc_law_qtry_ul : FnScope ["store", "kind", "number", "e"] ["store", "kind", "number"] (defScope s_law_qtry_ul) := ⟨rfl, rfl, rfl, by decide +kernel, rfl, by decide +kernel, by decide +kernel⟩
theorem ok_law_qtry_ul {f : Addr} {fd : FuncData} (F : Fun K "_law_qtry" "_law_qtry" s_law_qtry_ul f fd) (B : Bt mg) (KC : Kt K mg) (KL : Lt K mg) (XF : Xt K mg) (G_Store_back_to : FnML P w K mg base "Store" "back_to" 4 R_Store_back_to) (G_Store_redo : FnML P w K mg base "Store" "redo" 4 R_Store_redo) (G_Store_undo : FnML P w K mg base "Store" "undo" 3 R_Store_undo) :
    FnOk P w K mg base CX0 7 f fd ["store", "kind", "number"] (spL K R_law_qtry_ul) := by
  refine fn_okL (k := 6) F sc_law_qtry_ul (fun a cs ds Ψ h => by cases h <;> rfl) fun a0 cs0 ds Ψ hR cdv A outer s H E hr => ?_
  have nd := sc_law_qtry_ul.nd
  have hu := hr.units
  
  walk_at "en"
  rcases hR with ⟨A, S, M, inv, he, hl9⟩ | ⟨A, S, M, inv, he, hl9⟩ | ⟨A, S, M, inv, m, he, hl9⟩
  · skip
    walk_at "en"
    refine ws_cons (ws_try0 ?_)
    refine ws_cons (ws_if (td_cmp (ed_var 1 rfl) ed_int (by walk_at "c2")) (fun hc1 => ?_) (fun hc1 => ?_))
    · skip
      clear hc1
      refine ws_cons (ws_exprP (ep_meth0W 0 G_Store_undo (hr.mono (by decide)) rfl st_m0 (ed_varX 0 rfl) (.mk a0 A S M inv he hl9)) ?_)
      rintro _ _ ⟨_, ⟨A2, S2, i2, n2, l2, rfl, rfl⟩, rfl⟩
      walk_at "env"
      refine ws_nil ?_
      refine ws_nil ?_
      refine ws_cons (ws_retC 0 ed_int rfl (Or.inl ⟨_, _, rfl, ?_⟩))
      exact ⟨_, _, i2, n2, l2, rfl, by first | rfl | trivial⟩
    · skip
      exfalso; revert hc1; decide
  · skip
    walk_at "en"
    refine ws_cons (ws_try0 ?_)
    refine ws_cons (ws_if (td_cmp (ed_var 1 rfl) ed_int (by walk_at "c2")) (fun hc2 => ?_) (fun hc2 => ?_))
    · skip
      exfalso; revert hc2; decide
    · skip
      clear hc2
      refine ws_cons (ws_if (td_cmp (ed_var 1 rfl) ed_int (by walk_at "c2")) (fun hc3 => ?_) (fun hc3 => ?_))
      · skip
        clear hc3
        refine ws_cons (ws_exprP (ep_meth0W 0 G_Store_redo (hr.mono (by decide)) rfl st_m0 (ed_varX 0 rfl) (.mk a0 A S M inv he hl9)) ?_)
        rintro _ _ ⟨_, ⟨A2, S2, i2, n2, l2, rfl, rfl⟩, rfl⟩
        walk_at "env"
        refine ws_nil ?_
        refine ws_nil ?_
        refine ws_nil ?_
        refine ws_cons (ws_retC 0 ed_int rfl (Or.inl ⟨_, _, rfl, ?_⟩))
        exact ⟨_, _, i2, n2, l2, rfl, by first | rfl | trivial⟩
      · skip
        exfalso; revert hc3; decide
  · skip
    walk_at "en"
    refine ws_cons (ws_try0 ?_)
    refine ws_cons (ws_if (td_cmp (ed_var 1 rfl) ed_int (by walk_at "c2")) (fun hc4 => ?_) (fun hc4 => ?_))
    · skip
      exfalso; revert hc4; decide
    · skip
      clear hc4
      refine ws_cons (ws_if (td_cmp (ed_var 1 rfl) ed_int (by walk_at "c2")) (fun hc5 => ?_) (fun hc5 => ?_))
      · skip
        exfalso; revert hc5; decide
      · skip
        clear hc5
        refine ws_cons (ws_if (td_cmp (ed_var 1 rfl) ed_int (by walk_at "c2")) (fun hc6 => ?_) (fun hc6 => ?_))
        · skip
          clear hc6
          refine ws_cons (ws_exprP (ep_methW 0 G_Store_back_to (hr.mono (by decide)) rfl st_m0 (ed_varX 0 rfl) (ad_cons (ed_var 2 rfl) ad_nil) (.mk a0 A S M inv m he hl9)) ?_)
          rintro _ _ ⟨_, ⟨A2, S2, i2, n2, l2, rfl, rfl⟩, rfl⟩
          walk_at "env"
          refine ws_nil ?_
          refine ws_nil ?_
          refine ws_nil ?_
          refine ws_nil ?_
          refine ws_cons (ws_retC 0 ed_int rfl (Or.inl ⟨_, _, rfl, ?_⟩))
          exact ⟨_, _, i2, n2, l2, rfl, by first | rfl | trivial⟩
        · skip
          exfalso; revert hc6; decide
abbrev s_law_change : Stmt := top 38
theorem sc_law_change : FnScope ["store", "m", "draws", "layer", "box", "rows", "number"] ["store", "m", "draws"] (defScope s_law_change) := ⟨rfl, rfl, rfl, by decide +kernel, rfl, by decide +kernel, by decide +kernel⟩
theorem ok_law_change {f : Addr} {fd : FuncData} (F : Fun K "_law_change" "_law_change" s_law_change f fd) (B : Bt mg) (KC : Kt K mg) (KL : Lt K mg) (XF : Xt K mg) (G_Store_add : FnML P w K mg base "Store" "add" 5 R_Store_add) (G_Store_remove : FnML P w K mg base "Store" "remove" 5 R_Store_remove) (G_law_box_of : Fn P w K mg base "_law_box_of" 1 R_law_box_of) (G_law_is_number : Fn P w K mg base "_law_is_number" 2 R_law_is_number) :
    FnOk P w K mg base CX0 6 f fd ["store", "m", "draws"] (spL K R_law_change) := by
  refine fn_okL (k := 5) F sc_law_change (fun a cs ds Ψ h => by cases h <;> rfl) fun a0 cs0 ds Ψ hR cdv A outer s H E hr => ?_
  have nd := sc_law_change.nd
  have hu := hr.units
  rcases hR with ⟨am, A, S, M, inv, c, hn9, hl9⟩
  obtain ⟨T, hT, pT⟩ := inv.cur
  obtain ⟨ndT, hT2⟩ := inv.nds T (List.mem_of_getElem? hT)
  have hTl : T.length ≤ 40 := by rw [pT.length_eq]; exact inv.ok.shl
  have hTk : ∀ {n : Int}, n ∈ T.map (·.1) ↔ n ∈ S.sh.map (·.1) := keys_perm pT
  obtain ⟨l9, hl9m⟩ : ∃ l : Str, l = (["metal", "poly"] : List Str).getD (dr c 8 0 % 2).toNat "" := ⟨_, rfl⟩
  have hl9i : l9 ∈ layN := by rw [hl9m]; exact lay2_mem _
  obtain ⟨b9, hb9⟩ : ∃ b, b = bxA (dr c 8 1) (dr c 8 2) := ⟨_, rfl⟩
  have hb9s : SB b9 := by rw [hb9]; exact bxA_sb _ _
  walk_at "en"
  refine ws_cons (ws_set 3 nd (ED.eq (ed_ix (ED.eq (ed_lst (eo_lst (ad_cons ed_str (ad_cons ed_str ad_nil)))) (show _ = D.lst ((["metal", "poly"] : List Str).map .str) from rfl)) (ed_bin (ed_ix (ed_var 2 rfl) ed_int (by walk_at "ix")) ed_int (by walk_at "b2")) (.l (at_getC (xs := (["metal", "poly"] : List Str)) (f := D.str) (a := "") (by show _ ∧ _ < (2 : Int); omega)))) (show _ = D.str l9 from by rw [hl9m])) ?_)
  walk_at "env"
  refine ws_cons (ws_set 4 nd (ED.eq (ed_call G_law_box_of (hr.mono (by decide)) (by rfl) (ad_cons (ed_ix (ed_var 2 rfl) ed_int (by walk_at "ix")) (ad_cons (ed_ix (ed_var 2 rfl) ed_int (by walk_at "ix")) ad_nil)) (by exact .mk _ _)) (show _ = (b9.e) from by rw [hb9]; rfl)) ?_)
  walk_at "env"
  refine ws_cons (ws_setO 5 nd eo_dk ?_)
  walk_at "env"
  refine ws_cons (ws_forKE rfl (ks := T.map kSx) (es := T.map dSx) (fun B0 B σ H0 H j => ?_) (fun n r => ∃ s, r = [.ox (stCs a0 A S ++ [mC am M]) (.ad a0), .sh (.ad am), .sh (.lst ((draws c 8).map .int)), .sh (.str l9), .sh b9.e, .ow (.dk ((T.take n).map kSx) ((T.take n).map dSx)), s]) ⟨_, rfl⟩ ?_ ?_)
  · obtain ⟨a, hda, j1⟩ := j.tellM (s := 0) (c := (stCs a0 A S).length) (q := 0) (n := M.at_) (ks := T.map kSx) (ds := T.map dSx) rfl (List.getElem?_concat_length ..) rfl (by rw [List.getElem?_map, hT]; rfl)
    exact ⟨a, _, hda, j1, ed_ix (ed_dixI 0 hu rfl tm_mem (ed_var 1 rfl) ed_str (k0 := .inr "states") rfl) (ed_dixI 0 hu rfl tm_mem (ed_var 1 rfl) ed_str (k0 := .inr "at") mC_at2) (.l (atI_nat (List.getElem?_set_self (by rw [List.length_map]; exact inv.bd))))⟩
  · rintro n q _ hq ⟨s9, rfl⟩
    obtain ⟨e9, he9, rfl⟩ := key_at hq
    have hmem := List.mem_of_getElem? he9
    refine ⟨_, _, dg_name 6 nd, ?_⟩
    walk_at "env"
    refine ws_cons (ws_dputO 5 hu rfl (k0 := kSx e9) (ed_var 6 rfl) (ed_dix hu (ed_ix (ed_dixI 0 hu rfl (by first | exact List.mem_append_right _ (List.mem_singleton.mpr rfl) | exact List.mem_append_left _ (List.mem_singleton.mpr rfl)) (ed_var 1 rfl) ed_str (k0 := .inr "states") mC_st) (ed_dixI 0 hu rfl (by first | exact List.mem_append_right _ (List.mem_singleton.mpr rfl) | exact List.mem_append_left _ (List.mem_singleton.mpr rfl)) (ed_var 1 rfl) ed_str (k0 := .inr "at") mC_at) (.l (atI_nat (by rw [List.getElem?_map, hT]; rfl)))) (ed_var 6 rfl) (k0 := kSx e9) (lookK_sx (n := e9.1) (e := e9.2) ndT hmem)) (take_kno ndT he9) (by rw [List.length_map, List.length_take, sizeLine_eq]; omega) ?_)
    walk_at "env"
    refine ws_nil ?_
    exact ⟨_, by rw [take_mapS he9, take_mapS he9]; rfl⟩
  rintro _ ⟨s9, rfl⟩
  rw [List.length_map, List.take_length]
  skip
  refine ws_cons (ws_if (td_showO 5 rfl (td_tw (tw_or (td_cmp (ed_bin (ed_ix (ed_var 2 rfl) ed_int (by walk_at "ix")) ed_int (by walk_at "b2")) ed_int (by walk_at "c2")) (fun hb2 => (tw_or1 (td_cmp (ed_callB (id := "len") (by rfl) B.«len» bb_len (ad_cons (ed_var 5 rfl) ad_nil) (bc_lenDk)) ed_int (by walk_at "c2"))))))) (fun hc1 => ?_) (fun hc1 => ?_))
  · skip
    clear hc1
    refine ws_cons (ws_ifNotP (ep_callP2 (d0 := .bl true) G_law_is_number (hr.mono (by decide)) (by rfl) (ep_meth 0 (cs := stCs a0 A S) (cs2 := [mC am M]) G_Store_add (hr.mono (by decide)) rfl st_m0 (ed_varX 0 rfl) (ad_cons (ed_var 3 rfl) (ad_cons (ed_var 4 rfl) ad_nil)) (.mk a0 A S inv.ok l9 b9 hl9i hn9 (by omega))) ?_) (fun _ _ h => h.1) ?_)
    · rintro _ _ ⟨_, ⟨A9, rfl, rfl⟩, rfl⟩
      exact ⟨_, (ed_dixI 0 hu rfl (by first | exact List.mem_append_right _ (List.mem_singleton.mpr rfl) | exact List.mem_append_left _ (List.mem_singleton.mpr rfl)) (ed_var 1 rfl) ed_str (k0 := .inr "last") mC_la), by rw [inv.last]; simpa using R_law_is_number.mk (S.nb.length : Int) (S.nb.length : Int)⟩
    rintro _ _ ⟨_, _, _, ⟨A5, rfl, rfl⟩, rfl⟩
    refine ws_nil ?_
    walk_at "env"
    refine ws_cons (ws_dputO 5 hu rfl (k0 := .inl (S.nb.length : Int)) (ED.eq (ed_dixI 0 hu rfl (by first | exact List.mem_append_right _ (List.mem_singleton.mpr rfl) | exact List.mem_append_left _ (List.mem_singleton.mpr rfl)) (ed_var 1 rfl) ed_str (k0 := .inr "last") mC_la) (show _ = D.int (S.nb.length : Int) by rw [inv.last])) (ed_tup (ad_cons (ed_var 3 rfl) (ad_cons (ed_var 4 rfl) ad_nil))) (fun z => inv.ok.new9 (hTk.mp (mem_kSx.mp z))) (by rw [List.length_map, sizeLine_eq]; omega) ?_)
    walk_at "env"
    obtain ⟨R5, hR5⟩ : ∃ R, R = nxT true T (S.nb.length : Int) l9 b9 := ⟨_, rfl⟩
    rw [show (T.map kSx ++ [Sum.inl (S.nb.length : Int)] : List Key) = R5.map kSx by rw [hR5]; unfold nxT; rw [if_pos rfl, List.map_append]; rfl, show (T.map dSx ++ [D.tup [.str l9, b9.e]]) = R5.map dSx by rw [hR5]; unfold nxT; rw [if_pos rfl, List.map_append]; rfl]
    obtain ⟨S5, hS5⟩ : ∃ S', S' = S.add l9 b9 := ⟨_, rfl⟩
    rw [← hS5]
    have hI5 : InvM ⟨M.sts.take (M.at_ + 1) ++ [R5], M.at_ + 1, S.nb.length + 1⟩ S5 := by rw [hS5, hR5]; exact inv.add hl9i hb9s hn9 hT pT
    have hB5 : BdM S S5 := by rw [hS5]; exact bd_add _ _ _
    obtain ⟨La5, hLa5⟩ : ∃ n, n = S.nb.length + 1 := ⟨_, rfl⟩
    rw [← hLa5] at hI5
    refine ws_perm 0 rfl List.perm_append_comm ?_
    walk_at "env"
    refine ws_cons (ws_dsetI 0 0 2 (k0 := .inr "last") hu rfl rfl (ed_var 1 rfl) ed_str (ED.eq (ed_bin (ed_dixI 0 hu rfl (by first | exact List.mem_append_right _ (List.mem_singleton.mpr rfl) | exact List.mem_append_left _ (List.mem_singleton.mpr rfl)) (ed_var 1 rfl) ed_str (k0 := .inr "last") mC_la) ed_int (by walk_at "b2")) (show _ = D.int (La5 : Int) by rw [inv.last, hLa5]; rfl)) rfl (hΦ := ?_))
    walk_at "env"
    refine ws_to 0 (cs' := mC am ⟨M.sts, M.at_, La5⟩ :: stCs a0 A5 S5) rfl rfl ?_
    walk_at "env"
    refine ws_perm 0 (cs' := stCs a0 A5 S5 ++ [mC am ⟨M.sts, M.at_, La5⟩]) rfl (List.perm_append_singleton _ _).symm ?_
    walk_at "env"
    refine ws_nil ?_
    refine ws_share 5 rfl ?_
    walk_at "env"
    refine ws_perm 0 rfl List.perm_append_comm ?_
    walk_at "env"
    refine ws_cons (ws_dsetI 0 0 0 (k0 := .inr "states") hu rfl rfl (ed_var 1 rfl) ed_str (ED.eq (ed_lst (eo_cat (ed_lst (eo_slice (ed_dixI 0 hu rfl (by first | exact List.mem_append_right _ (List.mem_singleton.mpr rfl) | exact List.mem_append_left _ (List.mem_singleton.mpr rfl)) (ed_var 1 rfl) ed_str (k0 := .inr "states") mC_st) no_part (some_part (ed_bin (ed_dixI 0 hu rfl (by first | exact List.mem_append_right _ (List.mem_singleton.mpr rfl) | exact List.mem_append_left _ (List.mem_singleton.mpr rfl)) (ed_var 1 rfl) ed_str (k0 := .inr "at") mC_at) ed_int (by walk_at "b2"))))) (ed_lst (eo_lst (ad_cons (ed_var 5 rfl) ad_nil))) (by refine Nat.le_trans (Nat.add_le_add_right (cutD_len _ _ _) _) ?_; have := inv.len; rw [List.length_map, sizeLine_eq]; simp only [List.length_singleton]; omega))) (show _ = D.lst ((M.sts.take (M.at_ + 1) ++ [R5]).map rwT9) by rw [List.map_append]; exact congrArg D.lst (congrArg (· ++ [rwT9 R5]) (cut_sts M.sts M.at_)))) rfl (hΦ := ?_))
    walk_at "env"
    refine ws_to 0 (cs' := mC am ⟨M.sts.take (M.at_ + 1) ++ [R5], M.at_, La5⟩ :: stCs a0 A5 S5) rfl rfl ?_
    walk_at "env"
    refine ws_perm 0 (cs' := stCs a0 A5 S5 ++ [mC am ⟨M.sts.take (M.at_ + 1) ++ [R5], M.at_, La5⟩]) rfl (List.perm_append_singleton _ _).symm ?_
    walk_at "env"
    refine ws_perm 0 rfl List.perm_append_comm ?_
    walk_at "env"
    refine ws_cons (ws_dsetI 0 0 1 (k0 := .inr "at") hu rfl rfl (ed_var 1 rfl) ed_str (ED.eq (ed_bin (ed_dixI 0 hu rfl (by first | exact List.mem_append_right _ (List.mem_singleton.mpr rfl) | exact List.mem_append_left _ (List.mem_singleton.mpr rfl)) (ed_var 1 rfl) ed_str (k0 := .inr "at") mC_at) ed_int (by walk_at "b2")) (show _ = D.int ((M.at_ + 1 : Nat) : Int) from rfl)) rfl (hΦ := ?_))
    walk_at "env"
    refine ws_to 0 (cs' := mC am ⟨M.sts.take (M.at_ + 1) ++ [R5], M.at_ + 1, La5⟩ :: stCs a0 A5 S5) rfl rfl ?_
    walk_at "env"
    refine ws_perm 0 (cs' := stCs a0 A5 S5 ++ [mC am ⟨M.sts.take (M.at_ + 1) ++ [R5], M.at_ + 1, La5⟩]) rfl (List.perm_append_singleton _ _).symm ?_
    walk_at "env"
    refine ws_cons (ws_retC 0 ed_bl rfl (Or.inl ⟨_, _, rfl, ?_⟩))
    exact ⟨_, _, _, hI5, hB5, rfl, rfl⟩
  · skip
    have hne : 0 < T.length := by
      rcases Nat.eq_zero_or_pos T.length with h0 | h0
      · exfalso; rw [List.length_map, h0] at hc1; simp at hc1
      · exact h0
    obtain ⟨i9, hi9⟩ : ∃ i, i = dr c 8 4 % (T.length : Int) := ⟨_, rfl⟩
    have hi9b : 0 ≤ i9 ∧ i9 < (T.length : Int) := by rw [hi9]; exact ⟨Int.emod_nonneg _ (by omega), Int.emod_lt_of_pos _ (by omega)⟩
    have hsl : (srtI (T.map (·.1))).length = T.length := by rw [(srtI_perm _).length_eq, List.length_map]
    obtain ⟨n9, hn9e⟩ : ∃ n, n = (srtI (T.map (·.1))).getD i9.toNat 0 := ⟨_, rfl⟩
    have hn9m : n9 ∈ T.map (·.1) := by rw [hn9e, ← (srtI_perm _).mem_iff, List.getD_eq_getElem?_getD, List.getElem?_eq_getElem (by omega)]; exact List.getElem_mem _
    obtain ⟨⟨m9, l5, b5⟩, hx9, hm9⟩ := List.mem_map.mp hn9m
    have hx5 : (n9, l5, b5) ∈ T := by rw [← (show m9 = n9 from hm9)]; exact hx9
    have he9 : (n9, l5, b5) ∈ S.sh := pT.mem_iff.mp hx5
    refine ws_cons (ws_set 6 nd (ED.eq (d := .int n9) (ed_showO 5 rfl (ed_ix (ED.eq (ed_lst (eo_callB (id := "sorted") (by rfl) B.«sorted» bb_sorted (ad_cons (ED.eq (d' := .dk ((T.map (·.1)).map Sum.inl) (T.map dSx)) (ed_var 5 rfl) (by rw [List.map_map]; rfl)) ad_nil) (bo_sortedDI rfl (by rw [List.length_map]; omega)))) rfl) (ED.eq (ed_bin (ed_ix (ed_var 2 rfl) ed_int (by walk_at "ix")) (ed_callB (id := "len") (by rfl) B.«len» bb_len (ad_cons (ed_var 5 rfl) ad_nil) (bc_lenDk)) (b2_mod (by rw [List.length_map]; omega))) (show _ = D.int i9 by rw [List.length_map, hi9])) (.l (by rw [hn9e]; exact at_getC (f := D.int) (by rw [hsl]; exact hi9b))))) rfl) ?_)
    walk_at "env"
    refine ws_cons (ws_ifP (tp_cmpF (k := false) (ep_meth 0 (cs := stCs a0 A S) (cs2 := [mC am M]) G_Store_remove (hr.mono (by decide)) rfl st_m0 (ed_varX 0 rfl) (ad_cons (ed_var 6 rfl) ad_nil) (.mk a0 A S inv.ok n9 l5 b5 he9 (by omega))) ?_) ?_ ?_)
    · rintro _ _ ⟨_, ⟨A9, rfl, rfl⟩, rfl⟩
      exact ⟨_, ed_non, c2_notN⟩
    · rintro _ ⟨h, _⟩; cases h
    rintro _ ⟨_, _, _, ⟨A5, rfl, rfl⟩, rfl⟩
    refine ws_nil ?_
    walk_at "env"
    refine ws_cons (ws_dpopO 5 rfl (k0 := .inl n9) (ed_var 6 rfl) (mem_kSx.mpr hn9m) ⟨rfl, rfl, rfl, rfl⟩ ?_)
    walk_at "env"
    obtain ⟨R5, hR5⟩ : ∃ R, R = nxT false T n9 l5 b5 := ⟨_, rfl⟩
    rw [delK_sx, delV_sx, show delS T n9 = R5 by rw [hR5]; rfl]
    obtain ⟨S5, hS5⟩ : ∃ S', S' = S.chg false n9 l5 b5 := ⟨_, rfl⟩
    rw [← hS5]
    have hI5 : InvM ⟨M.sts.take (M.at_ + 1) ++ [R5], M.at_ + 1, S.nb.length⟩ S5 := by rw [hS5, hR5]; exact inv.new inv.ok rfl rfl (fun _ _ => rfl) inv.sb (k := false) he9 hT pT
    have hB5 : BdM S S5 := by rw [hS5]; exact bd_rem _ _ _ _
    obtain ⟨La5, hLa5⟩ : ∃ n, n = S.nb.length := ⟨_, rfl⟩
    rw [← hLa5] at hI5
    refine ws_to 0 (cs' := stCs a0 A5 S5 ++ [mC am ⟨M.sts, M.at_, La5⟩]) rfl (by rw [hLa5, ← inv.last]) ?_
    walk_at "env"
    refine ws_nil ?_
    refine ws_share 5 rfl ?_
    walk_at "env"
    refine ws_perm 0 rfl List.perm_append_comm ?_
    walk_at "env"
    refine ws_cons (ws_dsetI 0 0 0 (k0 := .inr "states") hu rfl rfl (ed_var 1 rfl) ed_str (ED.eq (ed_lst (eo_cat (ed_lst (eo_slice (ed_dixI 0 hu rfl (by first | exact List.mem_append_right _ (List.mem_singleton.mpr rfl) | exact List.mem_append_left _ (List.mem_singleton.mpr rfl)) (ed_var 1 rfl) ed_str (k0 := .inr "states") mC_st) no_part (some_part (ed_bin (ed_dixI 0 hu rfl (by first | exact List.mem_append_right _ (List.mem_singleton.mpr rfl) | exact List.mem_append_left _ (List.mem_singleton.mpr rfl)) (ed_var 1 rfl) ed_str (k0 := .inr "at") mC_at) ed_int (by walk_at "b2"))))) (ed_lst (eo_lst (ad_cons (ed_var 5 rfl) ad_nil))) (by refine Nat.le_trans (Nat.add_le_add_right (cutD_len _ _ _) _) ?_; have := inv.len; rw [List.length_map, sizeLine_eq]; simp only [List.length_singleton]; omega))) (show _ = D.lst ((M.sts.take (M.at_ + 1) ++ [R5]).map rwT9) by rw [List.map_append]; exact congrArg D.lst (congrArg (· ++ [rwT9 R5]) (cut_sts M.sts M.at_)))) rfl (hΦ := ?_))
    walk_at "env"
    refine ws_to 0 (cs' := mC am ⟨M.sts.take (M.at_ + 1) ++ [R5], M.at_, La5⟩ :: stCs a0 A5 S5) rfl rfl ?_
    walk_at "env"
    refine ws_perm 0 (cs' := stCs a0 A5 S5 ++ [mC am ⟨M.sts.take (M.at_ + 1) ++ [R5], M.at_, La5⟩]) rfl (List.perm_append_singleton _ _).symm ?_
    walk_at "env"
    refine ws_perm 0 rfl List.perm_append_comm ?_
    walk_at "env"
    refine ws_cons (ws_dsetI 0 0 1 (k0 := .inr "at") hu rfl rfl (ed_var 1 rfl) ed_str (ED.eq (ed_bin (ed_dixI 0 hu rfl (by first | exact List.mem_append_right _ (List.mem_singleton.mpr rfl) | exact List.mem_append_left _ (List.mem_singleton.mpr rfl)) (ed_var 1 rfl) ed_str (k0 := .inr "at") mC_at) ed_int (by walk_at "b2")) (show _ = D.int ((M.at_ + 1 : Nat) : Int) from rfl)) rfl (hΦ := ?_))
    walk_at "env"
    refine ws_to 0 (cs' := mC am ⟨M.sts.take (M.at_ + 1) ++ [R5], M.at_ + 1, La5⟩ :: stCs a0 A5 S5) rfl rfl ?_
    walk_at "env"
    refine ws_perm 0 (cs' := stCs a0 A5 S5 ++ [mC am ⟨M.sts.take (M.at_ + 1) ++ [R5], M.at_ + 1, La5⟩]) rfl (List.perm_append_singleton _ _).symm ?_
    walk_at "env"
    refine ws_cons (ws_retC 0 ed_bl rfl (Or.inl ⟨_, _, rfl, ?_⟩))
    exact ⟨_, _, _, hI5, hB5, rfl, rfl⟩
abbrev s_law_deed : Stmt := top 39
theorem sc_law_deed : FnScope ["store", "m", "draws", "kind", "mark", "due"] ["store", "m", "draws"] (defScope s_law_deed) := ⟨rfl, rfl, rfl, by decide +kernel, rfl, by decide +kernel, by decide +kernel⟩
theorem ok_law_deed {f : Addr} {fd : FuncData} (F : Fun K "_law_deed" "_law_deed" s_law_deed f fd) (B : Bt mg) (KC : Kt K mg) (KL : Lt K mg) (XF : Xt K mg) (G_law_change : FnL P w K mg base "_law_change" 6 R_law_change) (G_law_qtry_ul : FnL P w K mg base "_law_qtry" 7 R_law_qtry_ul) (G_law_qtry_us : Fn P w K mg base "_law_qtry" 6 R_law_qtry_us) :
    FnOk P w K mg base CX0 8 f fd ["store", "m", "draws"] (spL K R_law_deed) := by
  refine fn_okL (k := 7) F sc_law_deed (fun a cs ds Ψ h => by cases h <;> rfl) fun a0 cs0 ds Ψ hR cdv A outer s H E hr => ?_
  have nd := sc_law_deed.nd
  have hu := hr.units
  rcases hR with ⟨am, A, S, M, inv, c, hn9, hl9⟩
  have hlen9 := inv.len
  have hat9 := inv.at_
  walk_at "en"
  refine ws_cons (ws_set 3 nd (ed_bin (ed_ix (ed_var 2 rfl) ed_int (by walk_at "ix")) ed_int (by walk_at "b2")) ?_)
  walk_at "env"
  refine ws_cons (ws_if (td_cmp (ed_var 3 rfl) ed_int (by walk_at "c2")) (fun hc1 => ?_) (fun hc1 => ?_))
  · skip
    (try simp only [decide_eq_true_eq, decide_eq_false_iff_not, Bool.and_eq_true, Bool.or_eq_true, Bool.not_eq_true', Bool.not_eq_false', Bool.and_eq_false_imp, Bool.or_eq_false_iff, Int.not_lt, Int.not_le, bne_iff_ne, ne_eq] at hc1)
    refine ws_cons (ws_retCP 0 (ep_callLW 0 G_law_change (hr.mono (by decide)) (by rfl) rfl (ad_cons (ed_varX 0 rfl) (ad_cons (ed_var 1 rfl) (ad_cons (ed_var 2 rfl) ad_nil))) (.mk a0 am A S M inv c hn9 hl9)) ?_)
    rintro _ _ ⟨_, ⟨A2, S2, M2, i2, b2, rfl, rfl⟩, rfl⟩
    exact ⟨_, _, rfl, Or.inl ⟨_, _, rfl, A2, S2, M2, i2, b2, rfl, rfl⟩⟩
  · skip
    (try simp only [decide_eq_true_eq, decide_eq_false_iff_not, Bool.and_eq_true, Bool.or_eq_true, Bool.not_eq_true', Bool.not_eq_false', Bool.and_eq_false_imp, Bool.or_eq_false_iff, Int.not_lt, Int.not_le, bne_iff_ne, ne_eq] at hc1)
    refine ws_nil ?_
    refine ws_cons (ws_if (td_tw (tw_or (td_cmp (ed_var 3 rfl) ed_int (by walk_at "c2")) (fun hb3 => (tw_or1 (td_cmp (ed_var 3 rfl) ed_int (by walk_at "c2")))))) (fun hc2 => ?_) (fun hc2 => ?_))
    · skip
      (try simp only [decide_eq_true_eq, decide_eq_false_iff_not, Bool.and_eq_true, Bool.or_eq_true, Bool.not_eq_true', Bool.not_eq_false', Bool.and_eq_false_imp, Bool.or_eq_false_iff, Int.not_lt, Int.not_le, bne_iff_ne, ne_eq] at hc2)
      by_cases hz : S.dn = []
      · skip
        have he2 : M.to 0 = M := to_same (by rw [hat9, hz]; rfl)
        refine ws_cons (ws_set 5 nd (ED.eq (ed_callT (T := "int") (by rfl) B.«int» bb_int (ad_cons (ed_cmp (ed_dixI 0 hu rfl (by first | exact List.mem_append_right _ (List.mem_singleton.mpr rfl) | exact List.mem_append_left _ (List.mem_singleton.mpr rfl)) (ed_var 1 rfl) ed_str (k0 := .inr "at") mC_at) ed_int (by walk_at "c2")) ad_nil) (bc_intB)) (show _ = (D.int 1) from by rw [hat9, hz]; rfl)) ?_)
        walk_at "env"
        refine ws_perm 0 rfl List.perm_append_comm ?_
        walk_at "env"
        refine ws_cons (ws_dsetI 0 0 1 (k0 := .inr "at") hu rfl rfl (ed_var 1 rfl) ed_str (ED.eq (ed_callB (id := "max") (by rfl) B.«max» bb_max (ad_cons ed_int (ad_cons (ed_bin (ed_dixI 0 hu rfl (by first | exact List.mem_append_right _ (List.mem_singleton.mpr rfl) | exact List.mem_append_left _ (List.mem_singleton.mpr rfl)) (ed_var 1 rfl) ed_str (k0 := .inr "at") mC_at) ed_int (by walk_at "b2")) ad_nil)) (bc_max2 rfl)) (show _ = D.int ((0 : Nat) : Int) by rw [hat9, hz]; rfl)) rfl (hΦ := ?_))
        walk_at "env"
        refine ws_to 0 (cs' := mC am (M.to 0) :: stCs a0 A S) rfl rfl ?_
        walk_at "env"
        refine ws_perm 0 (cs' := stCs a0 A S ++ [mC am (M.to 0)]) rfl (List.perm_append_singleton _ _).symm ?_
        walk_at "env"
        refine ws_cons (ws_retC 0 (ED.eq (d := .bl true) (ed_show 0 (stO S) rfl (fun _ _ v h r => st_show (S := S) v (fun y hy => h y (List.mem_append_left _ hy)) r) (ed_cmp (ed_call G_law_qtry_us (hr.mono (by decide)) (by rfl) (ad_cons (ed_var 0 rfl) (ad_cons ed_int (ad_cons ed_int ad_nil))) (.u0 S hz)) (ed_var 5 rfl) c2_eqI)) rfl) rfl (Or.inl ⟨_, _, rfl, ?_⟩))
        exact ⟨A, S, M.to 0, by rw [he2]; exact inv, bd_refl S, rfl, by first | rfl | trivial⟩
      · skip
        have hz0 : 0 < S.dn.length := List.length_pos_iff.mpr hz
        refine ws_cons (ws_set 5 nd (ED.eq (ed_callT (T := "int") (by rfl) B.«int» bb_int (ad_cons (ed_cmp (ed_dixI 0 hu rfl (by first | exact List.mem_append_right _ (List.mem_singleton.mpr rfl) | exact List.mem_append_left _ (List.mem_singleton.mpr rfl)) (ed_var 1 rfl) ed_str (k0 := .inr "at") mC_at) ed_int (by walk_at "c2")) ad_nil) (bc_intB)) (show _ = (D.int 0) from by rw [decide_eq_false (by omega)]; rfl)) ?_)
        walk_at "env"
        refine ws_perm 0 rfl List.perm_append_comm ?_
        walk_at "env"
        refine ws_cons (ws_dsetI 0 0 1 (k0 := .inr "at") hu rfl rfl (ed_var 1 rfl) ed_str (ED.eq (ed_callB (id := "max") (by rfl) B.«max» bb_max (ad_cons ed_int (ad_cons (ed_bin (ed_dixI 0 hu rfl (by first | exact List.mem_append_right _ (List.mem_singleton.mpr rfl) | exact List.mem_append_left _ (List.mem_singleton.mpr rfl)) (ed_var 1 rfl) ed_str (k0 := .inr "at") mC_at) ed_int (by walk_at "b2")) ad_nil)) (bc_max2 rfl)) (show _ = D.int ((S.dn.length - 1 : Nat) : Int) by congr 1; omega)) rfl (hΦ := ?_))
        walk_at "env"
        refine ws_to 0 (cs' := mC am (M.to (S.dn.length - 1)) :: stCs a0 A S) rfl rfl ?_
        walk_at "env"
        refine ws_perm 0 (cs' := stCs a0 A S ++ [mC am (M.to (S.dn.length - 1))]) rfl (List.perm_append_singleton _ _).symm ?_
        walk_at "env"
        refine ws_cons (ws_retCP 0 (ep_cmpF (d2 := .bl true) (ep_callL 0 (cs := stCs a0 A S) (cs2 := [mC am (M.to (S.dn.length - 1))]) G_law_qtry_ul (hr.mono (by decide)) (by rfl) rfl (ad_cons (ed_varX 0 rfl) (ad_cons ed_int (ad_cons ed_int ad_nil))) (.u0 a0 A S M inv hz (by omega))) ?_) ?_)
        · rintro _ _ ⟨_, ⟨A9, S9, _, _, _, rfl, rfl⟩, rfl⟩
          exact ⟨_, ed_var 5 rfl, c2_eqT⟩
        · rintro _ _ ⟨rfl, _, _, ⟨A9, S9, i9, n9, l9, rfl, rfl⟩, rfl⟩
          exact ⟨_, _, rfl, Or.inl ⟨_, _, rfl, A9, S9, _, i9, ⟨by rw [n9]; exact Nat.le_succ _, by rw [l9]; exact Nat.le_succ _⟩, rfl, rfl⟩⟩
    · skip
      (try simp only [decide_eq_true_eq, decide_eq_false_iff_not, Bool.and_eq_true, Bool.or_eq_true, Bool.not_eq_true', Bool.not_eq_false', Bool.and_eq_false_imp, Bool.or_eq_false_iff, Int.not_lt, Int.not_le, bne_iff_ne, ne_eq] at hc2)
      refine ws_nil ?_
      refine ws_cons (ws_if (td_cmp (ed_var 3 rfl) ed_int (by walk_at "c2")) (fun hc4 => ?_) (fun hc4 => ?_))
      · skip
        (try simp only [decide_eq_true_eq, decide_eq_false_iff_not, Bool.and_eq_true, Bool.or_eq_true, Bool.not_eq_true', Bool.not_eq_false', Bool.and_eq_false_imp, Bool.or_eq_false_iff, Int.not_lt, Int.not_le, bne_iff_ne, ne_eq] at hc4)
        by_cases hz : S.un = []
        · skip
          have he2 : M.to M.at_ = M := to_same rfl
          have hz0 : S.un.length = 0 := by rw [hz]; rfl
          refine ws_cons (ws_set 5 nd (ed_bin ed_int (ED.eq (ed_callT (T := "int") (by rfl) B.«int» bb_int (ad_cons (ed_cmp (ed_dixI 0 hu rfl (by first | exact List.mem_append_right _ (List.mem_singleton.mpr rfl) | exact List.mem_append_left _ (List.mem_singleton.mpr rfl)) (ed_var 1 rfl) ed_str (k0 := .inr "at") mC_at) (ed_bin (ed_callB (id := "len") (by rfl) B.«len» bb_len (ad_cons (ed_dixI 0 hu rfl (by first | exact List.mem_append_right _ (List.mem_singleton.mpr rfl) | exact List.mem_append_left _ (List.mem_singleton.mpr rfl)) (ed_var 1 rfl) ed_str (k0 := .inr "states") mC_st) ad_nil) (bc_lenL)) ed_int (by walk_at "b2")) (by walk_at "c2")) ad_nil) (bc_intB)) (show _ = (D.int 1) from by rw [List.length_map, decide_eq_true (by omega)]; rfl)) (by walk_at "b2")) ?_)
          walk_at "env"
          refine ws_perm 0 rfl List.perm_append_comm ?_
          walk_at "env"
          refine ws_cons (ws_dsetI 0 0 1 (k0 := .inr "at") hu rfl rfl (ed_var 1 rfl) ed_str (ED.eq (ed_callB (id := "min") (by rfl) B.«min» bb_min (ad_cons (ed_bin (ed_callB (id := "len") (by rfl) B.«len» bb_len (ad_cons (ed_dixI 0 hu rfl (by first | exact List.mem_append_right _ (List.mem_singleton.mpr rfl) | exact List.mem_append_left _ (List.mem_singleton.mpr rfl)) (ed_var 1 rfl) ed_str (k0 := .inr "states") mC_st) ad_nil) (bc_lenL)) ed_int (by walk_at "b2")) (ad_cons (ed_bin (ed_dixI 0 hu rfl (by first | exact List.mem_append_right _ (List.mem_singleton.mpr rfl) | exact List.mem_append_left _ (List.mem_singleton.mpr rfl)) (ed_var 1 rfl) ed_str (k0 := .inr "at") mC_at) ed_int (by walk_at "b2")) ad_nil)) (bc_min2 rfl)) (show _ = D.int ((M.at_ : Nat) : Int) by rw [List.length_map]; congr 1; omega)) rfl (hΦ := ?_))
          walk_at "env"
          refine ws_to 0 (cs' := mC am (M.to M.at_) :: stCs a0 A S) rfl rfl ?_
          walk_at "env"
          refine ws_perm 0 (cs' := stCs a0 A S ++ [mC am (M.to M.at_)]) rfl (List.perm_append_singleton _ _).symm ?_
          walk_at "env"
          refine ws_cons (ws_retC 0 (ED.eq (d := .bl true) (ed_show 0 (stO S) rfl (fun _ _ v h r => st_show (S := S) v (fun y hy => h y (List.mem_append_left _ hy)) r) (ed_cmp (ed_call G_law_qtry_us (hr.mono (by decide)) (by rfl) (ad_cons (ed_var 0 rfl) (ad_cons ed_int (ad_cons ed_int ad_nil))) (.u1 S hz)) (ed_var 5 rfl) c2_eqI)) rfl) rfl (Or.inl ⟨_, _, rfl, ?_⟩))
          exact ⟨A, S, M.to M.at_, by rw [he2]; exact inv, bd_refl S, rfl, by first | rfl | trivial⟩
        · skip
          have hz0 : 0 < S.un.length := List.length_pos_iff.mpr hz
          refine ws_cons (ws_set 5 nd (ed_bin ed_int (ED.eq (ed_callT (T := "int") (by rfl) B.«int» bb_int (ad_cons (ed_cmp (ed_dixI 0 hu rfl (by first | exact List.mem_append_right _ (List.mem_singleton.mpr rfl) | exact List.mem_append_left _ (List.mem_singleton.mpr rfl)) (ed_var 1 rfl) ed_str (k0 := .inr "at") mC_at) (ed_bin (ed_callB (id := "len") (by rfl) B.«len» bb_len (ad_cons (ed_dixI 0 hu rfl (by first | exact List.mem_append_right _ (List.mem_singleton.mpr rfl) | exact List.mem_append_left _ (List.mem_singleton.mpr rfl)) (ed_var 1 rfl) ed_str (k0 := .inr "states") mC_st) ad_nil) (bc_lenL)) ed_int (by walk_at "b2")) (by walk_at "c2")) ad_nil) (bc_intB)) (show _ = (D.int 0) from by rw [List.length_map, decide_eq_false (by omega)]; rfl)) (by walk_at "b2")) ?_)
          walk_at "env"
          refine ws_perm 0 rfl List.perm_append_comm ?_
          walk_at "env"
          refine ws_cons (ws_dsetI 0 0 1 (k0 := .inr "at") hu rfl rfl (ed_var 1 rfl) ed_str (ED.eq (ed_callB (id := "min") (by rfl) B.«min» bb_min (ad_cons (ed_bin (ed_callB (id := "len") (by rfl) B.«len» bb_len (ad_cons (ed_dixI 0 hu rfl (by first | exact List.mem_append_right _ (List.mem_singleton.mpr rfl) | exact List.mem_append_left _ (List.mem_singleton.mpr rfl)) (ed_var 1 rfl) ed_str (k0 := .inr "states") mC_st) ad_nil) (bc_lenL)) ed_int (by walk_at "b2")) (ad_cons (ed_bin (ed_dixI 0 hu rfl (by first | exact List.mem_append_right _ (List.mem_singleton.mpr rfl) | exact List.mem_append_left _ (List.mem_singleton.mpr rfl)) (ed_var 1 rfl) ed_str (k0 := .inr "at") mC_at) ed_int (by walk_at "b2")) ad_nil)) (bc_min2 rfl)) (show _ = D.int ((M.at_ + 1 : Nat) : Int) by rw [List.length_map]; congr 1; omega)) rfl (hΦ := ?_))
          walk_at "env"
          refine ws_to 0 (cs' := mC am (M.to (M.at_ + 1)) :: stCs a0 A S) rfl rfl ?_
          walk_at "env"
          refine ws_perm 0 (cs' := stCs a0 A S ++ [mC am (M.to (M.at_ + 1))]) rfl (List.perm_append_singleton _ _).symm ?_
          walk_at "env"
          refine ws_cons (ws_retCP 0 (ep_cmpF (d2 := .bl true) (ep_callL 0 (cs := stCs a0 A S) (cs2 := [mC am (M.to (M.at_ + 1))]) G_law_qtry_ul (hr.mono (by decide)) (by rfl) rfl (ad_cons (ed_varX 0 rfl) (ad_cons ed_int (ad_cons ed_int ad_nil))) (.u1 a0 A S M inv hz (by omega))) ?_) ?_)
          · rintro _ _ ⟨_, ⟨A9, S9, _, _, _, rfl, rfl⟩, rfl⟩
            exact ⟨_, ed_var 5 rfl, c2_eqT⟩
          · rintro _ _ ⟨rfl, _, _, ⟨A9, S9, i9, n9, l9, rfl, rfl⟩, rfl⟩
            exact ⟨_, _, rfl, Or.inl ⟨_, _, rfl, A9, S9, _, i9, ⟨by rw [n9]; exact Nat.le_succ _, by rw [l9]; exact Nat.le_succ _⟩, rfl, rfl⟩⟩
      · skip
        (try simp only [decide_eq_true_eq, decide_eq_false_iff_not, Bool.and_eq_true, Bool.or_eq_true, Bool.not_eq_true', Bool.not_eq_false', Bool.and_eq_false_imp, Bool.or_eq_false_iff, Int.not_lt, Int.not_le, bne_iff_ne, ne_eq] at hc4)
        refine ws_nil ?_
        skip
        · skip
          obtain ⟨k9, hk9⟩ : ∃ k, k = dr c 8 4 % ((M.at_ : Int) + 3) - 1 := ⟨_, rfl⟩
          have hk9s : Sm k9 := by
            have h1 := Int.emod_nonneg (dr c 8 4) (show (M.at_ : Int) + 3 ≠ 0 by omega)
            have h2 := Int.emod_lt_of_pos (dr c 8 4) (show (0 : Int) < (M.at_ : Int) + 3 by omega)
            exact sm_small (by omega)
          skip
          refine ws_cons (ws_set 4 nd (ED.eq (ed_bin (ed_bin (ed_ix (ed_var 2 rfl) ed_int (by walk_at "ix")) (ed_bin (ed_dixI 0 hu rfl (by first | exact List.mem_append_right _ (List.mem_singleton.mpr rfl) | exact List.mem_append_left _ (List.mem_singleton.mpr rfl)) (ed_var 1 rfl) ed_str (k0 := .inr "at") mC_at) ed_int (by walk_at "b2")) (by walk_at "b2")) ed_int (by walk_at "b2")) (show _ = (D.int k9) from by rw [hk9])) ?_)
          walk_at "env"
          by_cases hz : 0 ≤ k9 ∧ k9 ≤ (S.dn.length : Int)
          · skip
            obtain ⟨q9, rfl⟩ : ∃ q : Nat, k9 = (q : Int) := Int.eq_ofNat_of_zero_le hz.1
            have hq9 : q9 ≤ S.dn.length := by have := hz.2; omega
            refine ws_cons (ws_set 5 nd (ed_bin ed_int (ED.eq (ed_callT (T := "int") (by rfl) B.«int» bb_int (ad_cons (ed_or (ed_cmp (ed_var 4 rfl) ed_int (by walk_at "c2")) (fun hb5 => (ed_one (ed_cmp (ed_var 4 rfl) (ed_dixI 0 hu rfl (by first | exact List.mem_append_right _ (List.mem_singleton.mpr rfl) | exact List.mem_append_left _ (List.mem_singleton.mpr rfl)) (ed_var 1 rfl) ed_str (k0 := .inr "at") mC_at) (by walk_at "c2"))))) ad_nil) (bc_intB)) (show _ = (D.int 0) from by rw [decide_eq_false (by omega), decide_eq_false (by omega)]; rfl)) (by walk_at "b2")) ?_)
            walk_at "env"
            refine ws_cons (ws_if (td_cmp (ed_var 5 rfl) ed_int (by walk_at "c2")) (fun hc6 => ?_) (fun hc6 => ?_))
            · skip
              clear hc6
              refine ws_perm 0 rfl List.perm_append_comm ?_
              walk_at "env"
              refine ws_cons (ws_dsetI 0 0 1 (k0 := .inr "at") hu rfl rfl (ed_var 1 rfl) ed_str (ed_var 4 rfl) rfl (hΦ := ?_))
              walk_at "env"
              refine ws_to 0 (cs' := mC am (M.to q9) :: stCs a0 A S) rfl rfl ?_
              walk_at "env"
              refine ws_perm 0 (cs' := stCs a0 A S ++ [mC am (M.to q9)]) rfl (List.perm_append_singleton _ _).symm ?_
              walk_at "env"
              refine ws_nil ?_
              refine ws_cons (ws_retCP 0 (ep_cmpF (d2 := .bl true) (ep_callL 0 (cs := stCs a0 A S) (cs2 := [mC am (M.to q9)]) G_law_qtry_ul (hr.mono (by decide)) (by rfl) rfl (ad_cons (ed_varX 0 rfl) (ad_cons ed_int (ad_cons (ed_var 4 rfl) ad_nil))) (.u2 a0 A S M inv q9 hq9 (by omega))) ?_) ?_)
              · rintro _ _ ⟨_, ⟨A9, S9, _, _, _, rfl, rfl⟩, rfl⟩
                exact ⟨_, ed_var 5 rfl, c2_eqT⟩
              · rintro _ _ ⟨rfl, _, _, ⟨A9, S9, i9, n9, l9, rfl, rfl⟩, rfl⟩
                exact ⟨_, _, rfl, Or.inl ⟨_, _, rfl, A9, S9, _, i9, ⟨by rw [n9]; exact Nat.le_succ _, by rw [l9]; exact Nat.le_succ _⟩, rfl, rfl⟩⟩
            · skip
              exfalso; simp at hc6
          · skip
            have he2 : M = M := rfl
            refine ws_cons (ws_set 5 nd (ed_bin ed_int (ED.eq (ed_callT (T := "int") (by rfl) B.«int» bb_int (ad_cons (ed_or (ed_cmp (ed_var 4 rfl) ed_int (by walk_at "c2")) (fun hb7 => (ed_one (ed_cmp (ed_var 4 rfl) (ed_dixI 0 hu rfl (by first | exact List.mem_append_right _ (List.mem_singleton.mpr rfl) | exact List.mem_append_left _ (List.mem_singleton.mpr rfl)) (ed_var 1 rfl) ed_str (k0 := .inr "at") mC_at) (by walk_at "c2"))))) ad_nil) (bc_intB)) (show _ = (D.int 1) from by rw [or_bad hat9 hz]; rfl)) (by walk_at "b2")) ?_)
            walk_at "env"
            refine ws_cons (ws_if (td_cmp (ed_var 5 rfl) ed_int (by walk_at "c2")) (fun hc8 => ?_) (fun hc8 => ?_))
            · skip
              exfalso; simp at hc8
            · skip
              clear hc8
              refine ws_nil ?_
              refine ws_cons (ws_retC 0 (ED.eq (d := .bl true) (ed_show 0 (stO S) rfl (fun _ _ v h r => st_show (S := S) v (fun y hy => h y (List.mem_append_left _ hy)) r) (ed_cmp (ed_call G_law_qtry_us (hr.mono (by decide)) (by rfl) (ad_cons (ed_var 0 rfl) (ad_cons ed_int (ad_cons (ed_var 4 rfl) ad_nil))) (.u2 S k9 hz hk9s)) (ed_var 5 rfl) c2_eqI)) rfl) rfl (Or.inl ⟨_, _, rfl, ?_⟩))
              exact ⟨A, S, M, by rw [he2]; exact inv, bd_refl S, rfl, by first | rfl | trivial⟩
abbrev s_law : Stmt := top 40
theorem sc_law : FnScope ["script", "store", "m", "k", "draws", "windows"] ["script"] (defScope s_law) := ⟨rfl, rfl, rfl, by decide +kernel, rfl, by decide +kernel, by decide +kernel⟩
theorem ok_law {f : Addr} {fd : FuncData} (F : Fun K "law" "law" s_law f fd) (B : Bt mg) (KC : Kt K mg) (KL : Lt K mg) (XF : Xt K mg) (G_Store_init : FnIL P w K mg base "Store" 15 R_Store_init) (G_Store_mark : FnP P w K mg base "Store" "mark" 1 R_Store_mark) (G_law_box_of : Fn P w K mg base "_law_box_of" 1 R_law_box_of) (G_law_cell : Fn P w K mg base "_law_cell" 1 R_law_cell) (G_law_deed : FnL P w K mg base "_law_deed" 8 R_law_deed) (G_law_draws : Fn P w K mg base "_law_draws" 1 R_law_draws) (G_law_is_number : Fn P w K mg base "_law_is_number" 2 R_law_is_number) (G_law_qstore_is : FnL P w K mg base "_law_qstore_is" 17 R_law_qstore_is) :
    FnOk P w K mg base CX0 18 f fd ["script"] (spR K R_law) := by
  refine fn_ok (k := 17) F sc_law (fun ds d h => by cases h <;> rfl) fun ds d hR cdv A outer s H E hr => ?_
  have nd := sc_law.nd
  have hu := hr.units
  rcases hR with ⟨ns, hlen⟩
  obtain ⟨n9, hn9⟩ : ∃ n : Nat, n = min 40 ns.length := ⟨_, rfl⟩
  have hn40 : n9 ≤ 40 := by omega
  walk_at "en"
  refine ws_cons (ws_setC 1 nd (ec_make0 G_Store_init (hr.mono (by decide)) (by rfl) (fun a => .mk a)) ?_)
  rintro x9 _ ⟨A0, rfl⟩
  walk_at "env"
  refine ws_cons (ws_newCell 1 2 nd rfl (EO.eq (c' := .dk mKs (mVs m0)) (eo_disp (pd_cons (k0 := .inr "states") ed_str (ed_lst (eo_lst (ad_cons (ed_own eo_dk) ad_nil))) (pd_cons (k0 := .inr "at") ed_str ed_int (pd_cons (k0 := .inr "last") ed_str ed_int pd_nil))) (by decide)) rfl) fun am => ?_)
  walk_at "env"
  refine ws_to 1 (cs' := stCs x9 A0 st0 ++ [mC am m0]) rfl rfl ?_
  walk_at "env"
  refine ws_cons (ws_forX (List.range (n9)) (fun (i : Nat) => D.int (i : Int)) rfl (id_range1 (by rfl) B.«range» (ED.eq (ed_callB (id := "min") (by rfl) B.«min» bb_min (ad_cons ed_int (ad_cons (ed_callB (id := "len") (by rfl) B.«len» bb_len (ad_cons (ed_var 0 rfl) ad_nil) (by walk_at "bc")) ad_nil)) (bc_min2 rfl)) (show _ = D.int ((n9 : Nat) : Int) by rw [List.length_map, hn9]; congr 1; omega)) (by omega)) (by exact rngD0 _) (γ := StA × StS × LwM) (U := Sl × Sl × Sl) (fun i g u => [(1, .ox (stCs x9 g.1 g.2.1 ++ [mC am g.2.2]) (.ad x9)), (2, .sh (.ad am)), (3, u.1), (4, u.2.1), (5, u.2.2)]) (fun r => (r.getD 3 .no, r.getD 4 .no, r.getD 5 .no)) (fun i g => InvM g.2.2 g.2.1 ∧ g.2.1.nb.length ≤ i ∧ g.2.1.dn.length + g.2.1.un.length ≤ i) ((A0, st0, m0)) rfl (⟨inv_0, Nat.le_refl _, Nat.le_refl _⟩) ?_ ?_)
  · intro i0 t g0 u0 hx0 hP0
    obtain rfl : i0 = t := by
      obtain ⟨hl, he⟩ := List.getElem?_eq_some_iff.mp hx0
      rw [List.getElem_range] at he; exact he
    have hi0 : i0 < n9 := by have := (List.getElem?_eq_some_iff.mp hx0).1; rwa [List.length_range] at this
    obtain ⟨c9, hc9⟩ : ∃ c, c = cellAt ns (i0 : Int) := ⟨_, rfl⟩
    obtain ⟨w9, hw9⟩ : ∃ b, b = bxA (dr c9 8 6) (dr c9 8 7) := ⟨_, rfl⟩
    have hw9s : SB w9 := by rw [hw9]; exact bxA_sb _ _
    refine ⟨_, _, (dg_name 3 nd), ?_⟩
    walk_at "env"
    refine ws_cons (ws_set 4 nd (ed_call G_law_draws (hr.mono (by decide)) (by rfl) (ad_cons (ED.eq (ed_call G_law_cell (hr.mono (by decide)) (by rfl) (ad_cons (ed_var 0 rfl) (ad_cons (ed_var 3 rfl) ad_nil)) (by exact .mk _ _ (by omega))) (show _ = (D.int c9) from by rw [hc9])) (ad_cons ed_int ad_nil)) (by exact .mk _ _ (by omega) (by omega))) ?_)
    walk_at "env"
    refine ws_cons (ws_ifP (tp_or1 (tp_notT (ep_callLW 1 G_law_deed (hr.mono (by decide)) (by rfl) rfl (ad_cons (ed_varX 1 rfl) (ad_cons (ed_var 2 rfl) (ad_cons (ed_var 4 rfl) ad_nil))) (.mk x9 am g0.1 g0.2.1 g0.2.2 hP0.1 c9 (by have := hP0.2.1; omega) (by have := hP0.2.2; omega))) (fun _ _ ⟨_, ⟨_, _, _, _, _, _, h⟩, _⟩ => h)) ?_) ?_ ?_)
    · rintro _ ⟨_, _, ⟨A2, S2, M2, i2, b2, rfl, rfl⟩, rfl⟩
      exact td_show2 1 2 (stO S2) (.dk mKs (mVs M2)) rfl rfl (by decide) (fun v H h r => st_show (S := S2) v (fun y hy => h y (List.mem_append_left _ hy)) r) (fun v H h r => mC_show h r) (td_not (td_truth (ED.eq (ed_call G_law_is_number (hr.mono (by decide)) (by rfl) (ad_cons (ed_prop G_Store_mark (hr.mono (by decide)) (ed_var 1 rfl) (.mk S2)) (ad_cons (ed_dix hu (ed_var 2 rfl) ed_str (k0 := .inr "at") mC_at) ad_nil)) (.mk _ _)) (show _ = D.bl true by rw [i2.at_]; simp)) rfl))
    · rintro _ ⟨h, _⟩; cases h
    rintro _ ⟨_, _, _, ⟨A2, S2, M2, i2, b2, rfl, rfl⟩, rfl⟩
    refine ws_nil ?_
    walk_at "env"
    refine ws_cons (ws_setO 5 nd (eo_lst (ad_cons (ed_tup (ad_cons ed_str (ad_cons (ED.eq (ed_call G_law_box_of (hr.mono (by decide)) (by rfl) (ad_cons (ed_ix (ed_var 4 rfl) ed_int (by walk_at "ix")) (ad_cons (ed_ix (ed_var 4 rfl) ed_int (by walk_at "ix")) ad_nil)) (by exact .mk _ _)) (show _ = (w9.e) from by rw [hw9]; rfl)) ad_nil))) (ad_cons (ed_tup (ad_cons ed_str (ad_cons (ed_tup (ad_cons (ed_neg ed_int) (ad_cons (ed_neg ed_int) (ad_cons ed_int (ad_cons ed_int ad_nil))))) ad_nil))) ad_nil))) ?_)
    refine ws_share 5 rfl ?_
    walk_at "env"
    obtain ⟨T, hT, pT⟩ := i2.cur
    have hW9 : ShW [("metal", w9), ("poly", ⟨-9, -9, 20, 20⟩)] := shw_3 hw9s
    refine ws_cons (ws_ifNotP (ep_callL 1 (cs := stCs x9 A2 S2) (cs2 := [mC am M2]) G_law_qstore_is (hr.mono (by decide)) (by rfl) rfl (ad_cons (ed_varX 1 rfl) (ad_cons (ed_ix (ed_dixI 1 hu rfl (by first | exact List.mem_append_right _ (List.mem_singleton.mpr rfl) | exact List.mem_append_left _ (List.mem_singleton.mpr rfl)) (ed_var 2 rfl) ed_str (k0 := .inr "states") mC_st) (ed_dixI 1 hu rfl (by first | exact List.mem_append_right _ (List.mem_singleton.mpr rfl) | exact List.mem_append_left _ (List.mem_singleton.mpr rfl)) (ed_var 2 rfl) ed_str (k0 := .inr "at") mC_at) (.l (atI_nat (by rw [List.getElem?_map, hT]; rfl)))) (ad_cons (ed_var 5 rfl) ad_nil))) (.mk x9 A2 S2 i2.ok T pT (i2.shv hT) [("metal", w9), ("poly", ⟨-9, -9, 20, 20⟩)] hW9 (by simp))) (fun _ _ ⟨_, ⟨_, _, _, _, _, h⟩, _⟩ => h) ?_)
    rintro _ _ ⟨_, ⟨A6, S6, ok6, sam6, rfl, _⟩, rfl⟩
    refine ws_nil ?_
    walk_at "env"
    refine ws_nil ?_
    exact ⟨(A6, S6, M2), rfl, i2.same ok6 sam6, by rw [sam6.nb]; have := b2.n; have := hP0.2.1; omega, by rw [sam6.dn, sam6.un]; have := b2.u; have := hP0.2.2; omega⟩
  · intro g0 u0 hP0
    walk_at "env"
    refine ws_cons (ws_ret (ED.eq ed_bl ?_) (Or.inl rfl))
    rfl
end
theorem all_mk {l : PySem.W.OpenLaw} {w : World} {K : PySem.W.Frag} {h : Heap} {mg : Str → Option Value} {fa : Addr} (X : K.In h) (G : h.Ns mainGlobals mg) (hfa : mg "law" = some (.ref fa))
    {C_Tree : Addr} (aC_Tree : PySem.W.nsIn K mainGlobals "Tree" = some (some (.ref C_Tree)))
    (pg_Tree : PySem.W.plainGet K C_Tree Str.empty = true) (hd_Tree : PySem.W.hasDictIn K C_Tree = true) (po_Tree : PySem.W.plainOver K C_Tree = true) (sa_Tree : PySem.W.findIn K (.ref C_Tree) "__setattr__" = some (some (.builtin "object.__setattr__"))) (ha_Tree : PySem.W.findIn K (.ref C_Tree) "__class__" = some (some (.builtin "object.__class__"))) (hn_Tree : PySem.W.specialIn K (.builtin "object.__class__") "__get__" = some (some (.builtin "getset_descriptor.__get__"))) (htk_Tree : PySem.W.takesIn K (.builtin "object.__class__") = some true) (hm_Tree : PySem.W.mroIn K C_Tree (.type "object") = some true) (kc_Tree : PySem.W.keepIn K (.ref C_Tree) = true) (mk_Tree : PySem.W.makesIn K C_Tree = true)
    (na0_Tree : PySem.W.findIn K (.ref C_Tree) "_rows" = some none)
    (na1_Tree : PySem.W.findIn K (.ref C_Tree) "_hull" = some none)
    (na2_Tree : PySem.W.findIn K (.ref C_Tree) "_parts" = some none)
    {C_LayerIndex : Addr} (aC_LayerIndex : PySem.W.nsIn K mainGlobals "LayerIndex" = some (some (.ref C_LayerIndex)))
    (pg_LayerIndex : PySem.W.plainGet K C_LayerIndex Str.empty = true) (hd_LayerIndex : PySem.W.hasDictIn K C_LayerIndex = true) (po_LayerIndex : PySem.W.plainOver K C_LayerIndex = true) (sa_LayerIndex : PySem.W.findIn K (.ref C_LayerIndex) "__setattr__" = some (some (.builtin "object.__setattr__"))) (ha_LayerIndex : PySem.W.findIn K (.ref C_LayerIndex) "__class__" = some (some (.builtin "object.__class__"))) (hn_LayerIndex : PySem.W.specialIn K (.builtin "object.__class__") "__get__" = some (some (.builtin "getset_descriptor.__get__"))) (htk_LayerIndex : PySem.W.takesIn K (.builtin "object.__class__") = some true) (hm_LayerIndex : PySem.W.mroIn K C_LayerIndex (.type "object") = some true) (kc_LayerIndex : PySem.W.keepIn K (.ref C_LayerIndex) = true) (mk_LayerIndex : PySem.W.makesIn K C_LayerIndex = true)
    (na0_LayerIndex : PySem.W.findIn K (.ref C_LayerIndex) "_boxes" = some none)
    (na1_LayerIndex : PySem.W.findIn K (.ref C_LayerIndex) "_in_tree" = some none)
    (na2_LayerIndex : PySem.W.findIn K (.ref C_LayerIndex) "_late" = some none)
    (na3_LayerIndex : PySem.W.findIn K (.ref C_LayerIndex) "_tree" = some none)
    {C_Store : Addr} (aC_Store : PySem.W.nsIn K mainGlobals "Store" = some (some (.ref C_Store)))
    (pg_Store : PySem.W.plainGet K C_Store Str.empty = true) (hd_Store : PySem.W.hasDictIn K C_Store = true) (po_Store : PySem.W.plainOver K C_Store = true) (sa_Store : PySem.W.findIn K (.ref C_Store) "__setattr__" = some (some (.builtin "object.__setattr__"))) (ha_Store : PySem.W.findIn K (.ref C_Store) "__class__" = some (some (.builtin "object.__class__"))) (hn_Store : PySem.W.specialIn K (.builtin "object.__class__") "__get__" = some (some (.builtin "getset_descriptor.__get__"))) (htk_Store : PySem.W.takesIn K (.builtin "object.__class__") = some true) (hm_Store : PySem.W.mroIn K C_Store (.type "object") = some true) (kc_Store : PySem.W.keepIn K (.ref C_Store) = true) (mk_Store : PySem.W.makesIn K C_Store = true)
    (na0_Store : PySem.W.findIn K (.ref C_Store) "_numbered" = some none)
    (na1_Store : PySem.W.findIn K (.ref C_Store) "_shapes" = some none)
    (na2_Store : PySem.W.findIn K (.ref C_Store) "_indexes" = some none)
    (na3_Store : PySem.W.findIn K (.ref C_Store) "_done" = some none)
    (na4_Store : PySem.W.findIn K (.ref C_Store) "_undone" = some none)
    {f0 : Addr} {od0 an0 : Option Addr} {sl0 : Array (Option Value)} {oc0 kV0 dc0 pm0 cd0 ct0 : Value} (a0 : PySem.W.nsIn K mainGlobals "is_box" = some (some (.ref f0))) (l0 : K.lookup f0 = some ⟨oc0, od0, .func (PySem.W.fnOf "is_box" "is_box" (defArgs s_is_box) (defBody s_is_box) (defScope s_is_box) .none kV0 dc0 pm0 an0 cd0 ct0), sl0⟩) (c0 : PySem.W.codeIn K cd0 "is_box" = true) (k0 : PySem.W.keepIn K (.ref f0) = true)
    {f1 : Addr} {od1 an1 : Option Addr} {sl1 : Array (Option Value)} {oc1 kV1 dc1 pm1 cd1 ct1 : Value} (a1 : PySem.W.nsIn K mainGlobals "inner_sides" = some (some (.ref f1))) (l1 : K.lookup f1 = some ⟨oc1, od1, .func (PySem.W.fnOf "inner_sides" "inner_sides" (defArgs s_inner_sides) (defBody s_inner_sides) (defScope s_inner_sides) .none kV1 dc1 pm1 an1 cd1 ct1), sl1⟩) (c1 : PySem.W.codeIn K cd1 "inner_sides" = true) (k1 : PySem.W.keepIn K (.ref f1) = true)
    {f2 : Addr} {od2 an2 : Option Addr} {sl2 : Array (Option Value)} {oc2 kV2 dc2 pm2 cd2 ct2 : Value} (a2 : PySem.W.nsIn K mainGlobals "overlap" = some (some (.ref f2))) (l2 : K.lookup f2 = some ⟨oc2, od2, .func (PySem.W.fnOf "overlap" "overlap" (defArgs s_overlap) (defBody s_overlap) (defScope s_overlap) .none kV2 dc2 pm2 an2 cd2 ct2), sl2⟩) (c2 : PySem.W.codeIn K cd2 "overlap" = true) (k2 : PySem.W.keepIn K (.ref f2) = true)
    {f3 : Addr} {od3 an3 : Option Addr} {sl3 : Array (Option Value)} {oc3 kV3 dc3 pm3 cd3 ct3 : Value} (a3 : PySem.W.nsIn K mainGlobals "hull" = some (some (.ref f3))) (l3 : K.lookup f3 = some ⟨oc3, od3, .func (PySem.W.fnOf "hull" "hull" (defArgs s_hull) (defBody s_hull) (defScope s_hull) .none kV3 dc3 pm3 an3 cd3 ct3), sl3⟩) (c3 : PySem.W.codeIn K cd3 "hull" = true) (k3 : PySem.W.keepIn K (.ref f3) = true)
    {f4 : Addr} {od4 an4 : Option Addr} {sl4 : Array (Option Value)} {oc4 kV4 dc4 pm4 cd4 ct4 : Value} (a4 : PySem.W.nsIn K mainGlobals "middle_x" = some (some (.ref f4))) (l4 : K.lookup f4 = some ⟨oc4, od4, .func (PySem.W.fnOf "middle_x" "middle_x" (defArgs s_middle_x) (defBody s_middle_x) (defScope s_middle_x) .none kV4 dc4 pm4 an4 cd4 ct4), sl4⟩) (c4 : PySem.W.codeIn K cd4 "middle_x" = true) (k4 : PySem.W.keepIn K (.ref f4) = true)
    {f5 : Addr} {od5 an5 : Option Addr} {sl5 : Array (Option Value)} {oc5 kV5 dc5 pm5 cd5 ct5 : Value} (a5 : PySem.W.nsIn K mainGlobals "middle_y" = some (some (.ref f5))) (l5 : K.lookup f5 = some ⟨oc5, od5, .func (PySem.W.fnOf "middle_y" "middle_y" (defArgs s_middle_y) (defBody s_middle_y) (defScope s_middle_y) .none kV5 dc5 pm5 an5 cd5 ct5), sl5⟩) (c5 : PySem.W.codeIn K cd5 "middle_y" = true) (k5 : PySem.W.keepIn K (.ref f5) = true)
    {f6 : Addr} {od6 an6 : Option Addr} {sl6 : Array (Option Value)} {oc6 kV6 dc6 pm6 cd6 ct6 : Value} (a6 : PySem.W.nsIn K mainGlobals "along_longer_side" = some (some (.ref f6))) (l6 : K.lookup f6 = some ⟨oc6, od6, .func (PySem.W.fnOf "along_longer_side" "along_longer_side" (defArgs s_along_longer_side) (defBody s_along_longer_side) (defScope s_along_longer_side) .none kV6 dc6 pm6 an6 cd6 ct6), sl6⟩) (c6 : PySem.W.codeIn K cd6 "along_longer_side" = true) (k6 : PySem.W.keepIn K (.ref f6) = true)
    {f7 : Addr} {od7 an7 : Option Addr} {sl7 : Array (Option Value)} {oc7 kV7 dc7 pm7 cd7 ct7 : Value} (a7 : PySem.W.findIn K (.ref C_Tree) "__init__" = some (some (.ref f7))) (i7 : PySem.W.isFn K (.ref f7) = true) (l7 : K.lookup f7 = some ⟨oc7, od7, .func (PySem.W.fnOf "__init__" "Tree.__init__" (defArgs s_Tree_init_d0) (defBody s_Tree_init_d0) (defScope s_Tree_init_d0) .none kV7 dc7 pm7 an7 cd7 ct7), sl7⟩) (c7 : PySem.W.codeIn K cd7 "Tree.__init__" = true) (k7 : PySem.W.keepIn K (.ref f7) = true)
    {f8 : Addr} {od8 an8 : Option Addr} {sl8 : Array (Option Value)} {oc8 kV8 dc8 pm8 cd8 ct8 : Value} (a8 : PySem.W.findIn K (.ref C_Tree) "find" = some (some (.ref f8))) (i8 : PySem.W.isFn K (.ref f8) = true) (l8 : K.lookup f8 = some ⟨oc8, od8, .func (PySem.W.fnOf "find" "Tree.find" (defArgs s_Tree_find_leaf) (defBody s_Tree_find_leaf) (defScope s_Tree_find_leaf) .none kV8 dc8 pm8 an8 cd8 ct8), sl8⟩) (c8 : PySem.W.codeIn K cd8 "Tree.find" = true) (k8 : PySem.W.keepIn K (.ref f8) = true)
    {f9 : Addr} {od9 an9 : Option Addr} {sl9 : Array (Option Value)} {oc9 kV9 dc9 pm9 cd9 ct9 : Value} (a9 : PySem.W.findIn K (.ref C_LayerIndex) "__init__" = some (some (.ref f9))) (i9 : PySem.W.isFn K (.ref f9) = true) (l9 : K.lookup f9 = some ⟨oc9, od9, .func (PySem.W.fnOf "__init__" "LayerIndex.__init__" (defArgs s_LayerIndex_init) (defBody s_LayerIndex_init) (defScope s_LayerIndex_init) .none kV9 dc9 pm9 an9 cd9 ct9), sl9⟩) (c9 : PySem.W.codeIn K cd9 "LayerIndex.__init__" = true) (k9 : PySem.W.keepIn K (.ref f9) = true)
    {f10 : Addr} {od10 an10 : Option Addr} {sl10 : Array (Option Value)} {oc10 kV10 dc10 pm10 cd10 ct10 : Value} (a10 : PySem.W.findIn K (.ref C_LayerIndex) "put_in" = some (some (.ref f10))) (i10 : PySem.W.isFn K (.ref f10) = true) (l10 : K.lookup f10 = some ⟨oc10, od10, .func (PySem.W.fnOf "put_in" "LayerIndex.put_in" (defArgs s_LayerIndex_put_in) (defBody s_LayerIndex_put_in) (defScope s_LayerIndex_put_in) .none kV10 dc10 pm10 an10 cd10 ct10), sl10⟩) (c10 : PySem.W.codeIn K cd10 "LayerIndex.put_in" = true) (k10 : PySem.W.keepIn K (.ref f10) = true)
    {f11 : Addr} {od11 an11 : Option Addr} {sl11 : Array (Option Value)} {oc11 kV11 dc11 pm11 cd11 ct11 : Value} (a11 : PySem.W.findIn K (.ref C_LayerIndex) "take_out" = some (some (.ref f11))) (i11 : PySem.W.isFn K (.ref f11) = true) (l11 : K.lookup f11 = some ⟨oc11, od11, .func (PySem.W.fnOf "take_out" "LayerIndex.take_out" (defArgs s_LayerIndex_take_out) (defBody s_LayerIndex_take_out) (defScope s_LayerIndex_take_out) .none kV11 dc11 pm11 an11 cd11 ct11), sl11⟩) (c11 : PySem.W.codeIn K cd11 "LayerIndex.take_out" = true) (k11 : PySem.W.keepIn K (.ref f11) = true)
    {f12 : Addr} {od12 an12 : Option Addr} {sl12 : Array (Option Value)} {oc12 kV12 dc12 pm12 cd12 ct12 : Value} (a12 : PySem.W.findIn K (.ref C_LayerIndex) "find" = some (some (.ref f12))) (i12 : PySem.W.isFn K (.ref f12) = true) (l12 : K.lookup f12 = some ⟨oc12, od12, .func (PySem.W.fnOf "find" "LayerIndex.find" (defArgs s_LayerIndex_find) (defBody s_LayerIndex_find) (defScope s_LayerIndex_find) .none kV12 dc12 pm12 an12 cd12 ct12), sl12⟩) (c12 : PySem.W.codeIn K cd12 "LayerIndex.find" = true) (k12 : PySem.W.keepIn K (.ref f12) = true)
    {f13 : Addr} {od13 an13 : Option Addr} {sl13 : Array (Option Value)} {oc13 kV13 dc13 pm13 cd13 ct13 : Value} (a13 : PySem.W.findIn K (.ref C_LayerIndex) "_refresh" = some (some (.ref f13))) (i13 : PySem.W.isFn K (.ref f13) = true) (l13 : K.lookup f13 = some ⟨oc13, od13, .func (PySem.W.fnOf "_refresh" "LayerIndex._refresh" (defArgs s_LayerIndex_refresh) (defBody s_LayerIndex_refresh) (defScope s_LayerIndex_refresh) .none kV13 dc13 pm13 an13 cd13 ct13), sl13⟩) (c13 : PySem.W.codeIn K cd13 "LayerIndex._refresh" = true) (k13 : PySem.W.keepIn K (.ref f13) = true)
    {f14 : Addr} {od14 an14 : Option Addr} {sl14 : Array (Option Value)} {oc14 kV14 dc14 pm14 cd14 ct14 : Value} (a14 : PySem.W.findIn K (.ref C_Store) "__init__" = some (some (.ref f14))) (i14 : PySem.W.isFn K (.ref f14) = true) (l14 : K.lookup f14 = some ⟨oc14, od14, .func (PySem.W.fnOf "__init__" "Store.__init__" (defArgs s_Store_init) (defBody s_Store_init) (defScope s_Store_init) .none kV14 dc14 pm14 an14 cd14 ct14), sl14⟩) (c14 : PySem.W.codeIn K cd14 "Store.__init__" = true) (k14 : PySem.W.keepIn K (.ref f14) = true)
    {f15 : Addr} {od15 an15 : Option Addr} {sl15 : Array (Option Value)} {oc15 kV15 dc15 pm15 cd15 ct15 : Value} (a15 : PySem.W.findIn K (.ref C_Store) "__len__" = some (some (.ref f15))) (i15 : PySem.W.isFn K (.ref f15) = true) (l15 : K.lookup f15 = some ⟨oc15, od15, .func (PySem.W.fnOf "__len__" "Store.__len__" (defArgs s_Store_len) (defBody s_Store_len) (defScope s_Store_len) .none kV15 dc15 pm15 an15 cd15 ct15), sl15⟩) (c15 : PySem.W.codeIn K cd15 "Store.__len__" = true) (k15 : PySem.W.keepIn K (.ref f15) = true)
    {f16 : Addr} {od16 an16 : Option Addr} {sl16 : Array (Option Value)} {oc16 kV16 dc16 pm16 cd16 ct16 : Value} (a16 : PySem.W.findIn K (.ref C_Store) "add" = some (some (.ref f16))) (i16 : PySem.W.isFn K (.ref f16) = true) (l16 : K.lookup f16 = some ⟨oc16, od16, .func (PySem.W.fnOf "add" "Store.add" (defArgs s_Store_add) (defBody s_Store_add) (defScope s_Store_add) .none kV16 dc16 pm16 an16 cd16 ct16), sl16⟩) (c16 : PySem.W.codeIn K cd16 "Store.add" = true) (k16 : PySem.W.keepIn K (.ref f16) = true)
    {f17 : Addr} {od17 an17 : Option Addr} {sl17 : Array (Option Value)} {oc17 kV17 dc17 pm17 cd17 ct17 : Value} (a17 : PySem.W.findIn K (.ref C_Store) "remove" = some (some (.ref f17))) (i17 : PySem.W.isFn K (.ref f17) = true) (l17 : K.lookup f17 = some ⟨oc17, od17, .func (PySem.W.fnOf "remove" "Store.remove" (defArgs s_Store_remove) (defBody s_Store_remove) (defScope s_Store_remove) .none kV17 dc17 pm17 an17 cd17 ct17), sl17⟩) (c17 : PySem.W.codeIn K cd17 "Store.remove" = true) (k17 : PySem.W.keepIn K (.ref f17) = true)
    {f18 : Addr} {od18 an18 : Option Addr} {sl18 : Array (Option Value)} {oc18 kV18 dc18 pm18 cd18 ct18 : Value} (a18 : PySem.W.findIn K (.ref C_Store) "shape" = some (some (.ref f18))) (i18 : PySem.W.isFn K (.ref f18) = true) (l18 : K.lookup f18 = some ⟨oc18, od18, .func (PySem.W.fnOf "shape" "Store.shape" (defArgs s_Store_shape) (defBody s_Store_shape) (defScope s_Store_shape) .none kV18 dc18 pm18 an18 cd18 ct18), sl18⟩) (c18 : PySem.W.codeIn K cd18 "Store.shape" = true) (k18 : PySem.W.keepIn K (.ref f18) = true)
    {f19 : Addr} {od19 an19 : Option Addr} {sl19 : Array (Option Value)} {oc19 kV19 dc19 pm19 cd19 ct19 : Value} (a19 : PySem.W.findIn K (.ref C_Store) "find" = some (some (.ref f19))) (i19 : PySem.W.isFn K (.ref f19) = true) (l19 : K.lookup f19 = some ⟨oc19, od19, .func (PySem.W.fnOf "find" "Store.find" (defArgs s_Store_find) (defBody s_Store_find) (defScope s_Store_find) .none kV19 dc19 pm19 an19 cd19 ct19), sl19⟩) (c19 : PySem.W.codeIn K cd19 "Store.find" = true) (k19 : PySem.W.keepIn K (.ref f19) = true)
    {f20 : Addr} {od20 an20 : Option Addr} {sl20 : Array (Option Value)} {oc20 kV20 dc20 pm20 cd20 ct20 : Value} (a20 : PySem.W.findIn K (.ref C_Store) "find_square" = some (some (.ref f20))) (i20 : PySem.W.isFn K (.ref f20) = true) (l20 : K.lookup f20 = some ⟨oc20, od20, .func (PySem.W.fnOf "find_square" "Store.find_square" (defArgs s_Store_find_square) (defBody s_Store_find_square) (defScope s_Store_find_square) .none kV20 dc20 pm20 an20 cd20 ct20), sl20⟩) (c20 : PySem.W.codeIn K cd20 "Store.find_square" = true) (k20 : PySem.W.keepIn K (.ref f20) = true)
    {f21 : Addr} {od21 an21 : Option Addr} {sl21 : Array (Option Value)} {oc21 kV21 dc21 pm21 cd21 ct21 : Value} (a21 : PySem.W.findIn K (.ref C_Store) "numbers" = some (some (.ref f21))) (i21 : PySem.W.isFn K (.ref f21) = true) (l21 : K.lookup f21 = some ⟨oc21, od21, .func (PySem.W.fnOf "numbers" "Store.numbers" (defArgs s_Store_numbers) (defBody s_Store_numbers) (defScope s_Store_numbers) .none kV21 dc21 pm21 an21 cd21 ct21), sl21⟩) (c21 : PySem.W.codeIn K cd21 "Store.numbers" = true) (k21 : PySem.W.keepIn K (.ref f21) = true)
    {f22 p22 : Addr} {od22 an22 : Option Addr} {sl22 : Array (Option Value)} {oc22 kV22 dc22 pm22 cd22 ct22 : Value} {rs22 : List Value} (a22 : PySem.W.findIn K (.ref C_Store) "mark" = some (some (.ref p22))) (pg22 : PySem.W.specialIn K (.ref p22) "__get__" = some (some (.builtin "property.__get__"))) (pt22 : PySem.W.takesIn K (.ref p22) = some true) (pr22 : PySem.W.recIn K p22 "property" = some (.ref f22 :: rs22)) (l22 : K.lookup f22 = some ⟨oc22, od22, .func (PySem.W.fnOf "mark" "Store.mark" (defArgs s_Store_mark) (defBody s_Store_mark) (defScope s_Store_mark) .none kV22 dc22 pm22 an22 cd22 ct22), sl22⟩) (c22 : PySem.W.codeIn K cd22 "Store.mark" = true) (k22 : PySem.W.keepIn K (.ref f22) = true)
    {f23 : Addr} {od23 an23 : Option Addr} {sl23 : Array (Option Value)} {oc23 kV23 dc23 pm23 cd23 ct23 : Value} (a23 : PySem.W.findIn K (.ref C_Store) "undo" = some (some (.ref f23))) (i23 : PySem.W.isFn K (.ref f23) = true) (l23 : K.lookup f23 = some ⟨oc23, od23, .func (PySem.W.fnOf "undo" "Store.undo" (defArgs s_Store_undo) (defBody s_Store_undo) (defScope s_Store_undo) .none kV23 dc23 pm23 an23 cd23 ct23), sl23⟩) (c23 : PySem.W.codeIn K cd23 "Store.undo" = true) (k23 : PySem.W.keepIn K (.ref f23) = true)
    {f24 : Addr} {od24 an24 : Option Addr} {sl24 : Array (Option Value)} {oc24 kV24 dc24 pm24 cd24 ct24 : Value} (a24 : PySem.W.findIn K (.ref C_Store) "redo" = some (some (.ref f24))) (i24 : PySem.W.isFn K (.ref f24) = true) (l24 : K.lookup f24 = some ⟨oc24, od24, .func (PySem.W.fnOf "redo" "Store.redo" (defArgs s_Store_redo) (defBody s_Store_redo) (defScope s_Store_redo) .none kV24 dc24 pm24 an24 cd24 ct24), sl24⟩) (c24 : PySem.W.codeIn K cd24 "Store.redo" = true) (k24 : PySem.W.keepIn K (.ref f24) = true)
    {f25 : Addr} {od25 an25 : Option Addr} {sl25 : Array (Option Value)} {oc25 kV25 dc25 pm25 cd25 ct25 : Value} (a25 : PySem.W.findIn K (.ref C_Store) "back_to" = some (some (.ref f25))) (i25 : PySem.W.isFn K (.ref f25) = true) (l25 : K.lookup f25 = some ⟨oc25, od25, .func (PySem.W.fnOf "back_to" "Store.back_to" (defArgs s_Store_back_to) (defBody s_Store_back_to) (defScope s_Store_back_to) .none kV25 dc25 pm25 an25 cd25 ct25), sl25⟩) (c25 : PySem.W.codeIn K cd25 "Store.back_to" = true) (k25 : PySem.W.keepIn K (.ref f25) = true)
    {f26 : Addr} {od26 an26 : Option Addr} {sl26 : Array (Option Value)} {oc26 kV26 dc26 pm26 cd26 ct26 : Value} (a26 : PySem.W.findIn K (.ref C_Store) "_change" = some (some (.ref f26))) (i26 : PySem.W.isFn K (.ref f26) = true) (l26 : K.lookup f26 = some ⟨oc26, od26, .func (PySem.W.fnOf "_change" "Store._change" (defArgs s_Store_change) (defBody s_Store_change) (defScope s_Store_change) .none kV26 dc26 pm26 an26 cd26 ct26), sl26⟩) (c26 : PySem.W.codeIn K cd26 "Store._change" = true) (k26 : PySem.W.keepIn K (.ref f26) = true)
    {f27 : Addr} {od27 an27 : Option Addr} {sl27 : Array (Option Value)} {oc27 kV27 dc27 pm27 cd27 ct27 : Value} (a27 : PySem.W.findIn K (.ref C_Store) "_carry_out" = some (some (.ref f27))) (i27 : PySem.W.isFn K (.ref f27) = true) (l27 : K.lookup f27 = some ⟨oc27, od27, .func (PySem.W.fnOf "_carry_out" "Store._carry_out" (defArgs s_Store_carry_out) (defBody s_Store_carry_out) (defScope s_Store_carry_out) .none kV27 dc27 pm27 an27 cd27 ct27), sl27⟩) (c27 : PySem.W.codeIn K cd27 "Store._carry_out" = true) (k27 : PySem.W.keepIn K (.ref f27) = true)
    {f28 : Addr} {od28 an28 : Option Addr} {sl28 : Array (Option Value)} {oc28 kV28 dc28 pm28 cd28 ct28 : Value} (a28 : PySem.W.findIn K (.ref C_Store) "_put_in" = some (some (.ref f28))) (i28 : PySem.W.isFn K (.ref f28) = true) (l28 : K.lookup f28 = some ⟨oc28, od28, .func (PySem.W.fnOf "_put_in" "Store._put_in" (defArgs s_Store_put_in) (defBody s_Store_put_in) (defScope s_Store_put_in) .none kV28 dc28 pm28 an28 cd28 ct28), sl28⟩) (c28 : PySem.W.codeIn K cd28 "Store._put_in" = true) (k28 : PySem.W.keepIn K (.ref f28) = true)
    {f29 : Addr} {od29 an29 : Option Addr} {sl29 : Array (Option Value)} {oc29 kV29 dc29 pm29 cd29 ct29 : Value} (a29 : PySem.W.findIn K (.ref C_Store) "_take_out" = some (some (.ref f29))) (i29 : PySem.W.isFn K (.ref f29) = true) (l29 : K.lookup f29 = some ⟨oc29, od29, .func (PySem.W.fnOf "_take_out" "Store._take_out" (defArgs s_Store_take_out) (defBody s_Store_take_out) (defScope s_Store_take_out) .none kV29 dc29 pm29 an29 cd29 ct29), sl29⟩) (c29 : PySem.W.codeIn K cd29 "Store._take_out" = true) (k29 : PySem.W.keepIn K (.ref f29) = true)
    {f30 : Addr} {od30 an30 : Option Addr} {sl30 : Array (Option Value)} {oc30 kV30 dc30 pm30 cd30 ct30 : Value} (a30 : PySem.W.nsIn K mainGlobals "_law_cell" = some (some (.ref f30))) (l30 : K.lookup f30 = some ⟨oc30, od30, .func (PySem.W.fnOf "_law_cell" "_law_cell" (defArgs s_law_cell) (defBody s_law_cell) (defScope s_law_cell) .none kV30 dc30 pm30 an30 cd30 ct30), sl30⟩) (c30 : PySem.W.codeIn K cd30 "_law_cell" = true) (k30 : PySem.W.keepIn K (.ref f30) = true)
    {f31 : Addr} {od31 an31 : Option Addr} {sl31 : Array (Option Value)} {oc31 kV31 dc31 pm31 cd31 ct31 : Value} (a31 : PySem.W.nsIn K mainGlobals "_law_draws" = some (some (.ref f31))) (l31 : K.lookup f31 = some ⟨oc31, od31, .func (PySem.W.fnOf "_law_draws" "_law_draws" (defArgs s_law_draws) (defBody s_law_draws) (defScope s_law_draws) .none kV31 dc31 pm31 an31 cd31 ct31), sl31⟩) (c31 : PySem.W.codeIn K cd31 "_law_draws" = true) (k31 : PySem.W.keepIn K (.ref f31) = true)
    {f32 : Addr} {od32 an32 : Option Addr} {sl32 : Array (Option Value)} {oc32 kV32 dc32 pm32 cd32 ct32 : Value} (a32 : PySem.W.nsIn K mainGlobals "_law_is_int" = some (some (.ref f32))) (l32 : K.lookup f32 = some ⟨oc32, od32, .func (PySem.W.fnOf "_law_is_int" "_law_is_int" (defArgs s_law_is_int) (defBody s_law_is_int) (defScope s_law_is_int) .none kV32 dc32 pm32 an32 cd32 ct32), sl32⟩) (c32 : PySem.W.codeIn K cd32 "_law_is_int" = true) (k32 : PySem.W.keepIn K (.ref f32) = true)
    {f33 : Addr} {od33 an33 : Option Addr} {sl33 : Array (Option Value)} {oc33 kV33 dc33 pm33 cd33 ct33 : Value} (a33 : PySem.W.nsIn K mainGlobals "_law_ints" = some (some (.ref f33))) (l33 : K.lookup f33 = some ⟨oc33, od33, .func (PySem.W.fnOf "_law_ints" "_law_ints" (defArgs s_law_ints_list) (defBody s_law_ints_list) (defScope s_law_ints_list) .none kV33 dc33 pm33 an33 cd33 ct33), sl33⟩) (c33 : PySem.W.codeIn K cd33 "_law_ints" = true) (k33 : PySem.W.keepIn K (.ref f33) = true)
    {f34 : Addr} {od34 an34 : Option Addr} {sl34 : Array (Option Value)} {oc34 kV34 dc34 pm34 cd34 ct34 : Value} (a34 : PySem.W.nsIn K mainGlobals "_law_is_list" = some (some (.ref f34))) (l34 : K.lookup f34 = some ⟨oc34, od34, .func (PySem.W.fnOf "_law_is_list" "_law_is_list" (defArgs s_law_is_list) (defBody s_law_is_list) (defScope s_law_is_list) .none kV34 dc34 pm34 an34 cd34 ct34), sl34⟩) (c34 : PySem.W.codeIn K cd34 "_law_is_list" = true) (k34 : PySem.W.keepIn K (.ref f34) = true)
    {f35 : Addr} {od35 an35 : Option Addr} {sl35 : Array (Option Value)} {oc35 kV35 dc35 pm35 cd35 ct35 : Value} (a35 : PySem.W.nsIn K mainGlobals "_law_is_number" = some (some (.ref f35))) (l35 : K.lookup f35 = some ⟨oc35, od35, .func (PySem.W.fnOf "_law_is_number" "_law_is_number" (defArgs s_law_is_number) (defBody s_law_is_number) (defScope s_law_is_number) .none kV35 dc35 pm35 an35 cd35 ct35), sl35⟩) (c35 : PySem.W.codeIn K cd35 "_law_is_number" = true) (k35 : PySem.W.keepIn K (.ref f35) = true)
    {f36 : Addr} {od36 an36 : Option Addr} {sl36 : Array (Option Value)} {oc36 kV36 dc36 pm36 cd36 ct36 : Value} (a36 : PySem.W.nsIn K mainGlobals "_law_box_of" = some (some (.ref f36))) (l36 : K.lookup f36 = some ⟨oc36, od36, .func (PySem.W.fnOf "_law_box_of" "_law_box_of" (defArgs s_law_box_of) (defBody s_law_box_of) (defScope s_law_box_of) .none kV36 dc36 pm36 an36 cd36 ct36), sl36⟩) (c36 : PySem.W.codeIn K cd36 "_law_box_of" = true) (k36 : PySem.W.keepIn K (.ref f36) = true)
    {f37 : Addr} {od37 an37 : Option Addr} {sl37 : Array (Option Value)} {oc37 kV37 dc37 pm37 cd37 ct37 : Value} (a37 : PySem.W.nsIn K mainGlobals "_law_in" = some (some (.ref f37))) (l37 : K.lookup f37 = some ⟨oc37, od37, .func (PySem.W.fnOf "_law_in" "_law_in" (defArgs s_law_in) (defBody s_law_in) (defScope s_law_in) .none kV37 dc37 pm37 an37 cd37 ct37), sl37⟩) (c37 : PySem.W.codeIn K cd37 "_law_in" = true) (k37 : PySem.W.keepIn K (.ref f37) = true)
    {f38 : Addr} {od38 an38 : Option Addr} {sl38 : Array (Option Value)} {oc38 kV38 dc38 pm38 cd38 ct38 : Value} (a38 : PySem.W.nsIn K mainGlobals "_law_like" = some (some (.ref f38))) (l38 : K.lookup f38 = some ⟨oc38, od38, .func (PySem.W.fnOf "_law_like" "_law_like" (defArgs s_law_like_int) (defBody s_law_like_int) (defScope s_law_like_int) .none kV38 dc38 pm38 an38 cd38 ct38), sl38⟩) (c38 : PySem.W.codeIn K cd38 "_law_like" = true) (k38 : PySem.W.keepIn K (.ref f38) = true)
    {f39 : Addr} {od39 an39 : Option Addr} {sl39 : Array (Option Value)} {oc39 kV39 dc39 pm39 cd39 ct39 : Value} (a39 : PySem.W.nsIn K mainGlobals "_law_qmeets" = some (some (.ref f39))) (l39 : K.lookup f39 = some ⟨oc39, od39, .func (PySem.W.fnOf "_law_qmeets" "_law_qmeets" (defArgs s_law_qmeets) (defBody s_law_qmeets) (defScope s_law_qmeets) .none kV39 dc39 pm39 an39 cd39 ct39), sl39⟩) (c39 : PySem.W.codeIn K cd39 "_law_qmeets" = true) (k39 : PySem.W.keepIn K (.ref f39) = true)
    {f40 : Addr} {od40 an40 : Option Addr} {sl40 : Array (Option Value)} {oc40 kV40 dc40 pm40 cd40 ct40 : Value} (a40 : PySem.W.nsIn K mainGlobals "_law_qstore_is" = some (some (.ref f40))) (l40 : K.lookup f40 = some ⟨oc40, od40, .func (PySem.W.fnOf "_law_qstore_is" "_law_qstore_is" (defArgs s_law_qstore_is) (defBody s_law_qstore_is) (defScope s_law_qstore_is) .none kV40 dc40 pm40 an40 cd40 ct40), sl40⟩) (c40 : PySem.W.codeIn K cd40 "_law_qstore_is" = true) (k40 : PySem.W.keepIn K (.ref f40) = true)
    {f41 : Addr} {od41 an41 : Option Addr} {sl41 : Array (Option Value)} {oc41 kV41 dc41 pm41 cd41 ct41 : Value} (a41 : PySem.W.nsIn K mainGlobals "_law_qtry" = some (some (.ref f41))) (l41 : K.lookup f41 = some ⟨oc41, od41, .func (PySem.W.fnOf "_law_qtry" "_law_qtry" (defArgs s_law_qtry_us) (defBody s_law_qtry_us) (defScope s_law_qtry_us) .none kV41 dc41 pm41 an41 cd41 ct41), sl41⟩) (c41 : PySem.W.codeIn K cd41 "_law_qtry" = true) (k41 : PySem.W.keepIn K (.ref f41) = true)
    {f42 : Addr} {od42 an42 : Option Addr} {sl42 : Array (Option Value)} {oc42 kV42 dc42 pm42 cd42 ct42 : Value} (a42 : PySem.W.nsIn K mainGlobals "_law_change" = some (some (.ref f42))) (l42 : K.lookup f42 = some ⟨oc42, od42, .func (PySem.W.fnOf "_law_change" "_law_change" (defArgs s_law_change) (defBody s_law_change) (defScope s_law_change) .none kV42 dc42 pm42 an42 cd42 ct42), sl42⟩) (c42 : PySem.W.codeIn K cd42 "_law_change" = true) (k42 : PySem.W.keepIn K (.ref f42) = true)
    {f43 : Addr} {od43 an43 : Option Addr} {sl43 : Array (Option Value)} {oc43 kV43 dc43 pm43 cd43 ct43 : Value} (a43 : PySem.W.nsIn K mainGlobals "_law_deed" = some (some (.ref f43))) (l43 : K.lookup f43 = some ⟨oc43, od43, .func (PySem.W.fnOf "_law_deed" "_law_deed" (defArgs s_law_deed) (defBody s_law_deed) (defScope s_law_deed) .none kV43 dc43 pm43 an43 cd43 ct43), sl43⟩) (c43 : PySem.W.codeIn K cd43 "_law_deed" = true) (k43 : PySem.W.keepIn K (.ref f43) = true)
    {f44 : Addr} {od44 an44 : Option Addr} {sl44 : Array (Option Value)} {oc44 kV44 dc44 pm44 cd44 ct44 : Value} (a44 : PySem.W.nsIn K mainGlobals "law" = some (some (.ref f44))) (l44 : K.lookup f44 = some ⟨oc44, od44, .func (PySem.W.fnOf "law" "law" (defArgs s_law) (defBody s_law) (defScope s_law) .none kV44 dc44 pm44 an44 cd44 ct44), sl44⟩) (c44 : PySem.W.codeIn K cd44 "law" = true) (k44 : PySem.W.keepIn K (.ref f44) = true)
    (z_all : PySem.W.nsIn K mainGlobals "all" = some none)
    (z_bool : PySem.W.nsIn K mainGlobals "bool" = some none)
    (z_int : PySem.W.nsIn K mainGlobals "int" = some none)
    (z_isinstance : PySem.W.nsIn K mainGlobals "isinstance" = some none)
    (z_len : PySem.W.nsIn K mainGlobals "len" = some none)
    (z_list : PySem.W.nsIn K mainGlobals "list" = some none)
    (z_max : PySem.W.nsIn K mainGlobals "max" = some none)
    (z_min : PySem.W.nsIn K mainGlobals "min" = some none)
    (z_range : PySem.W.nsIn K mainGlobals "range" = some none)
    (z_sorted : PySem.W.nsIn K mainGlobals "sorted" = some none)
    (z_str : PySem.W.nsIn K mainGlobals "str" = some none)
    (z_tuple : PySem.W.nsIn K mainGlobals "tuple" = some none)
    {u_ADDED : Value} (y_ADDED : PySem.W.nsIn K mainGlobals "ADDED" = some (some u_ADDED)) (w_ADDED : KD K (.str "added") u_ADDED)
    {u_LAYERS : Value} (y_LAYERS : PySem.W.nsIn K mainGlobals "LAYERS" = some (some u_LAYERS)) (w_LAYERS : KD K (.tup [.str "well", .str "active", .str "poly", .str "contact", .str "metal", .str "via", .str "top"]) u_LAYERS)
    {u_LEAF_SIZE : Value} (y_LEAF_SIZE : PySem.W.nsIn K mainGlobals "LEAF_SIZE" = some (some u_LEAF_SIZE)) (w_LEAF_SIZE : KD K (.int 8) u_LEAF_SIZE)
    {u_REMOVED : Value} (y_REMOVED : PySem.W.nsIn K mainGlobals "REMOVED" = some (some u_REMOVED)) (w_REMOVED : KD K (.str "removed") u_REMOVED)
    {u_SLACK : Value} (y_SLACK : PySem.W.nsIn K mainGlobals "SLACK" = some (some u_SLACK)) (w_SLACK : KD K (.int 8) u_SLACK)
    {E_NothingToUndo : Addr} (ea_NothingToUndo : PySem.W.nsIn K mainGlobals "NothingToUndo" = some (some (.ref E_NothingToUndo)))
    (es_NothingToUndo : PySem.W.subIn K (.ref E_NothingToUndo) (.type "BaseException") = some true)
    (ed_NothingToUndo : PySem.W.hasDictIn K E_NothingToUndo = true)
    (et_NothingToUndo : PySem.W.typeIn K (.ref E_NothingToUndo) = some (.type "type"))
    (eq_NothingToUndo : PySem.W.excIn K E_NothingToUndo [.type "ValueError", .type "Exception", .type "BaseException", .type "object"] "ValueError.__new__" = true)
    (ek_NothingToUndo : PySem.W.keepIn K (.ref E_NothingToUndo) = true)
    (eg_NothingToUndo : PySem.W.findIn K (.ref E_NothingToUndo) "__getattribute__" = some (some (.builtin "BaseException.__getattribute__")))
    (en_NothingToUndo : PySem.W.findIn K (.ref E_NothingToUndo) "__getattr__" = some none)
    (ec_NothingToUndo : PySem.W.findIn K (.ref E_NothingToUndo) "__class__" = some (some (.builtin "object.__class__")))
    (ep_NothingToUndo : PySem.W.specialIn K (.builtin "object.__class__") "__get__" = some (some (.builtin "getset_descriptor.__get__")))
    (ex_NothingToUndo : PySem.W.takesIn K (.builtin "object.__class__") = some true)
    (em_NothingToUndo : PySem.W.mroIn K E_NothingToUndo (.type "object") = some true)
    {E_NothingToRedo : Addr} (ea_NothingToRedo : PySem.W.nsIn K mainGlobals "NothingToRedo" = some (some (.ref E_NothingToRedo)))
    (es_NothingToRedo : PySem.W.subIn K (.ref E_NothingToRedo) (.type "BaseException") = some true)
    (ed_NothingToRedo : PySem.W.hasDictIn K E_NothingToRedo = true)
    (et_NothingToRedo : PySem.W.typeIn K (.ref E_NothingToRedo) = some (.type "type"))
    (eq_NothingToRedo : PySem.W.excIn K E_NothingToRedo [.type "ValueError", .type "Exception", .type "BaseException", .type "object"] "ValueError.__new__" = true)
    (ek_NothingToRedo : PySem.W.keepIn K (.ref E_NothingToRedo) = true)
    (eg_NothingToRedo : PySem.W.findIn K (.ref E_NothingToRedo) "__getattribute__" = some (some (.builtin "BaseException.__getattribute__")))
    (en_NothingToRedo : PySem.W.findIn K (.ref E_NothingToRedo) "__getattr__" = some none)
    (ec_NothingToRedo : PySem.W.findIn K (.ref E_NothingToRedo) "__class__" = some (some (.builtin "object.__class__")))
    (ep_NothingToRedo : PySem.W.specialIn K (.builtin "object.__class__") "__get__" = some (some (.builtin "getset_descriptor.__get__")))
    (ex_NothingToRedo : PySem.W.takesIn K (.builtin "object.__class__") = some true)
    (em_NothingToRedo : PySem.W.mroIn K E_NothingToRedo (.type "object") = some true)
    {E_UnknownMark : Addr} (ea_UnknownMark : PySem.W.nsIn K mainGlobals "UnknownMark" = some (some (.ref E_UnknownMark)))
    (es_UnknownMark : PySem.W.subIn K (.ref E_UnknownMark) (.type "BaseException") = some true)
    (ed_UnknownMark : PySem.W.hasDictIn K E_UnknownMark = true)
    (et_UnknownMark : PySem.W.typeIn K (.ref E_UnknownMark) = some (.type "type"))
    (eq_UnknownMark : PySem.W.excIn K E_UnknownMark [.type "ValueError", .type "Exception", .type "BaseException", .type "object"] "ValueError.__new__" = true)
    (ek_UnknownMark : PySem.W.keepIn K (.ref E_UnknownMark) = true)
    (eg_UnknownMark : PySem.W.findIn K (.ref E_UnknownMark) "__getattribute__" = some (some (.builtin "BaseException.__getattribute__")))
    (en_UnknownMark : PySem.W.findIn K (.ref E_UnknownMark) "__getattr__" = some none)
    (ec_UnknownMark : PySem.W.findIn K (.ref E_UnknownMark) "__class__" = some (some (.builtin "object.__class__")))
    (ep_UnknownMark : PySem.W.specialIn K (.builtin "object.__class__") "__get__" = some (some (.builtin "getset_descriptor.__get__")))
    (ex_UnknownMark : PySem.W.takesIn K (.builtin "object.__class__") = some true)
    (em_UnknownMark : PySem.W.mroIn K E_UnknownMark (.type "object") = some true)
    (e4_mU : PySem.W.subIn K (.ref E_NothingToUndo) (.ref E_NothingToUndo) = some true)
    (e4_mR : PySem.W.subIn K (.ref E_NothingToRedo) (.ref E_NothingToRedo) = some true)
    (e4_mM : PySem.W.subIn K (.ref E_UnknownMark) (.ref E_UnknownMark) = some true)
    (e4_sUR : PySem.W.subIn K (.ref E_NothingToUndo) (.ref E_NothingToRedo) = some false)
    (e4_sUM : PySem.W.subIn K (.ref E_NothingToUndo) (.ref E_UnknownMark) = some false)
    {E_UnknownShape : Addr} (ea_UnknownShape : PySem.W.nsIn K mainGlobals "UnknownShape" = some (some (.ref E_UnknownShape)))
    (es_UnknownShape : PySem.W.subIn K (.ref E_UnknownShape) (.type "BaseException") = some true)
    (ed_UnknownShape : PySem.W.hasDictIn K E_UnknownShape = true)
    (et_UnknownShape : PySem.W.typeIn K (.ref E_UnknownShape) = some (.type "type"))
    (e4_sUS : PySem.W.subIn K (.ref E_NothingToUndo) (.ref E_UnknownShape) = some false)
    (e4_sRU : PySem.W.subIn K (.ref E_NothingToRedo) (.ref E_NothingToUndo) = some false)
    (e4_sRM : PySem.W.subIn K (.ref E_NothingToRedo) (.ref E_UnknownMark) = some false)
    (e4_sRS : PySem.W.subIn K (.ref E_NothingToRedo) (.ref E_UnknownShape) = some false)
    (e4_sMU : PySem.W.subIn K (.ref E_UnknownMark) (.ref E_NothingToUndo) = some false)
    (e4_sMR : PySem.W.subIn K (.ref E_UnknownMark) (.ref E_NothingToRedo) = some false)
    (e4_sMS : PySem.W.subIn K (.ref E_UnknownMark) (.ref E_UnknownShape) = some false)
    : ∃ fd : FuncData, (∀ (s : Shared) (v : Value), BindsTo s fd ⟨[v], []⟩ [("script", v)]) ∧ ∀ base : Heap, K.In base → base.Ns mainGlobals mg → FnOk l.prog w K mg base CX0 18 fa fd ["script"] (spR K RLaw) := by
  have e := hfa.symm.trans (PySem.W.mg_of X G a44)
  cases e
  have B : Bt mg := ⟨PySem.W.mg_none_of X G z_all, PySem.W.mg_none_of X G z_bool, PySem.W.mg_none_of X G z_int, PySem.W.mg_none_of X G z_isinstance, PySem.W.mg_none_of X G z_len, PySem.W.mg_none_of X G z_list, PySem.W.mg_none_of X G z_max, PySem.W.mg_none_of X G z_min, PySem.W.mg_none_of X G z_range, PySem.W.mg_none_of X G z_sorted, PySem.W.mg_none_of X G z_str, PySem.W.mg_none_of X G z_tuple⟩
  have KC : Kt K mg := ⟨⟨⟨u_ADDED, PySem.W.mg_of X G y_ADDED, w_ADDED⟩⟩, ⟨⟨u_LAYERS, PySem.W.mg_of X G y_LAYERS, w_LAYERS⟩⟩, ⟨⟨u_LEAF_SIZE, PySem.W.mg_of X G y_LEAF_SIZE, w_LEAF_SIZE⟩⟩, ⟨⟨u_REMOVED, PySem.W.mg_of X G y_REMOVED, w_REMOVED⟩⟩, ⟨⟨u_SLACK, PySem.W.mg_of X G y_SLACK, w_SLACK⟩⟩⟩
  have KL : Lt K mg := ⟨⟨⟨C_Tree, aC_Tree, PySem.W.mg_of X G aC_Tree, ⟨⟨pg_Tree, hd_Tree, po_Tree, sa_Tree⟩, ha_Tree, hn_Tree, htk_Tree, hm_Tree, kit_self⟩, kc_Tree, (List.forall_mem_cons.mpr ⟨na0_Tree, (List.forall_mem_cons.mpr ⟨na1_Tree, (List.forall_mem_cons.mpr ⟨na2_Tree, fun _ h => absurd h (by simp)⟩)⟩)⟩)⟩⟩, ⟨⟨C_LayerIndex, aC_LayerIndex, PySem.W.mg_of X G aC_LayerIndex, ⟨⟨pg_LayerIndex, hd_LayerIndex, po_LayerIndex, sa_LayerIndex⟩, ha_LayerIndex, hn_LayerIndex, htk_LayerIndex, hm_LayerIndex, kit_self⟩, kc_LayerIndex, (List.forall_mem_cons.mpr ⟨na0_LayerIndex, (List.forall_mem_cons.mpr ⟨na1_LayerIndex, (List.forall_mem_cons.mpr ⟨na2_LayerIndex, (List.forall_mem_cons.mpr ⟨na3_LayerIndex, fun _ h => absurd h (by simp)⟩)⟩)⟩)⟩)⟩⟩, ⟨⟨C_Store, aC_Store, PySem.W.mg_of X G aC_Store, ⟨⟨pg_Store, hd_Store, po_Store, sa_Store⟩, ha_Store, hn_Store, htk_Store, hm_Store, kit_self⟩, kc_Store, (List.forall_mem_cons.mpr ⟨na0_Store, (List.forall_mem_cons.mpr ⟨na1_Store, (List.forall_mem_cons.mpr ⟨na2_Store, (List.forall_mem_cons.mpr ⟨na3_Store, (List.forall_mem_cons.mpr ⟨na4_Store, fun _ h => absurd h (by simp)⟩)⟩)⟩)⟩)⟩)⟩⟩⟩
  have XF : Xt K mg := ⟨⟨⟨E_NothingToUndo, ea_NothingToUndo, PySem.W.mg_of X G ea_NothingToUndo, eq_NothingToUndo, ek_NothingToUndo, es_NothingToUndo, et_NothingToUndo, ⟨eg_NothingToUndo, en_NothingToUndo, es_NothingToUndo, ed_NothingToUndo, ec_NothingToUndo, ep_NothingToUndo, ex_NothingToUndo, em_NothingToUndo⟩⟩⟩, ⟨⟨E_NothingToRedo, ea_NothingToRedo, PySem.W.mg_of X G ea_NothingToRedo, eq_NothingToRedo, ek_NothingToRedo, es_NothingToRedo, et_NothingToRedo, ⟨eg_NothingToRedo, en_NothingToRedo, es_NothingToRedo, ed_NothingToRedo, ec_NothingToRedo, ep_NothingToRedo, ex_NothingToRedo, em_NothingToRedo⟩⟩⟩, ⟨⟨E_UnknownMark, ea_UnknownMark, PySem.W.mg_of X G ea_UnknownMark, eq_UnknownMark, ek_UnknownMark, es_UnknownMark, et_UnknownMark, ⟨eg_UnknownMark, en_UnknownMark, es_UnknownMark, ed_UnknownMark, ec_UnknownMark, ep_UnknownMark, ex_UnknownMark, em_UnknownMark⟩⟩⟩, ⟨⟨E_NothingToUndo, E_NothingToUndo, ea_NothingToUndo, PySem.W.mg_of X G ea_NothingToUndo, PySem.W.exm_ref es_NothingToUndo ed_NothingToUndo et_NothingToUndo e4_mU⟩⟩, ⟨⟨E_NothingToRedo, E_NothingToRedo, ea_NothingToRedo, PySem.W.mg_of X G ea_NothingToRedo, PySem.W.exm_ref es_NothingToRedo ed_NothingToRedo et_NothingToRedo e4_mR⟩⟩, ⟨⟨E_UnknownMark, E_UnknownMark, ea_UnknownMark, PySem.W.mg_of X G ea_UnknownMark, PySem.W.exm_ref es_UnknownMark ed_UnknownMark et_UnknownMark e4_mM⟩⟩, ⟨⟨E_NothingToUndo, E_NothingToRedo, ea_NothingToUndo, PySem.W.mg_of X G ea_NothingToRedo, PySem.W.exm_ref es_NothingToRedo ed_NothingToRedo et_NothingToRedo e4_sUR⟩⟩, ⟨⟨E_NothingToUndo, E_UnknownMark, ea_NothingToUndo, PySem.W.mg_of X G ea_UnknownMark, PySem.W.exm_ref es_UnknownMark ed_UnknownMark et_UnknownMark e4_sUM⟩⟩, ⟨⟨E_NothingToUndo, E_UnknownShape, ea_NothingToUndo, PySem.W.mg_of X G ea_UnknownShape, PySem.W.exm_ref es_UnknownShape ed_UnknownShape et_UnknownShape e4_sUS⟩⟩, ⟨⟨E_NothingToRedo, E_NothingToUndo, ea_NothingToRedo, PySem.W.mg_of X G ea_NothingToUndo, PySem.W.exm_ref es_NothingToUndo ed_NothingToUndo et_NothingToUndo e4_sRU⟩⟩, ⟨⟨E_NothingToRedo, E_UnknownMark, ea_NothingToRedo, PySem.W.mg_of X G ea_UnknownMark, PySem.W.exm_ref es_UnknownMark ed_UnknownMark et_UnknownMark e4_sRM⟩⟩, ⟨⟨E_NothingToRedo, E_UnknownShape, ea_NothingToRedo, PySem.W.mg_of X G ea_UnknownShape, PySem.W.exm_ref es_UnknownShape ed_UnknownShape et_UnknownShape e4_sRS⟩⟩, ⟨⟨E_UnknownMark, E_NothingToUndo, ea_UnknownMark, PySem.W.mg_of X G ea_NothingToUndo, PySem.W.exm_ref es_NothingToUndo ed_NothingToUndo et_NothingToUndo e4_sMU⟩⟩, ⟨⟨E_UnknownMark, E_NothingToRedo, ea_UnknownMark, PySem.W.mg_of X G ea_NothingToRedo, PySem.W.exm_ref es_NothingToRedo ed_NothingToRedo et_NothingToRedo e4_sMR⟩⟩, ⟨⟨E_UnknownMark, E_UnknownShape, ea_UnknownMark, PySem.W.mg_of X G ea_UnknownShape, PySem.W.exm_ref es_UnknownShape ed_UnknownShape et_UnknownShape e4_sMS⟩⟩⟩
  have F0 := fun_mk (st := s_is_box) l0 c0 k0
  have b0 := F0.binds (ps := ["box"]) fun _ _ _ _ _ _ us hl => match us, hl with | [_], _ => rfl
  have F1 := fun_mk (st := s_inner_sides) l1 c1 k1
  have b1 := F1.binds (ps := ["first", "second"]) fun _ _ _ _ _ _ us hl => match us, hl with | [_, _], _ => rfl
  have F2 := fun_mk (st := s_overlap) l2 c2 k2
  have b2 := F2.binds (ps := ["first", "second"]) fun _ _ _ _ _ _ us hl => match us, hl with | [_, _], _ => rfl
  have F3 := fun_mk (st := s_hull) l3 c3 k3
  have b3 := F3.binds (ps := ["boxes"]) fun _ _ _ _ _ _ us hl => match us, hl with | [_], _ => rfl
  have F4 := fun_mk (st := s_middle_x) l4 c4 k4
  have b4 := F4.binds (ps := ["row"]) fun _ _ _ _ _ _ us hl => match us, hl with | [_], _ => rfl
  have F5 := fun_mk (st := s_middle_y) l5 c5 k5
  have b5 := F5.binds (ps := ["row"]) fun _ _ _ _ _ _ us hl => match us, hl with | [_], _ => rfl
  have F6 := fun_mk (st := s_along_longer_side) l6 c6 k6
  have b6 := F6.binds (ps := ["rows", "frame"]) fun _ _ _ _ _ _ us hl => match us, hl with | [_, _], _ => rfl
  have F7 := fun_mk (st := s_Tree_init_d0) l7 c7 k7
  have b7 := F7.binds (ps := ["self", "rows"]) fun _ _ _ _ _ _ us hl => match us, hl with | [_, _], _ => rfl
  have F8 := fun_mk (st := s_Tree_find_leaf) l8 c8 k8
  have b8 := F8.binds (ps := ["self", "window"]) fun _ _ _ _ _ _ us hl => match us, hl with | [_, _], _ => rfl
  have F9 := fun_mk (st := s_LayerIndex_init) l9 c9 k9
  have b9 := F9.binds (ps := ["self"]) fun _ _ _ _ _ _ us hl => match us, hl with | [_], _ => rfl
  have F10 := fun_mk (st := s_LayerIndex_put_in) l10 c10 k10
  have b10 := F10.binds (ps := ["self", "number", "box"]) fun _ _ _ _ _ _ us hl => match us, hl with | [_, _, _], _ => rfl
  have F11 := fun_mk (st := s_LayerIndex_take_out) l11 c11 k11
  have b11 := F11.binds (ps := ["self", "number"]) fun _ _ _ _ _ _ us hl => match us, hl with | [_, _], _ => rfl
  have F12 := fun_mk (st := s_LayerIndex_find) l12 c12 k12
  have b12 := F12.binds (ps := ["self", "window"]) fun _ _ _ _ _ _ us hl => match us, hl with | [_, _], _ => rfl
  have F13 := fun_mk (st := s_LayerIndex_refresh) l13 c13 k13
  have b13 := F13.binds (ps := ["self"]) fun _ _ _ _ _ _ us hl => match us, hl with | [_], _ => rfl
  have F14 := fun_mk (st := s_Store_init) l14 c14 k14
  have b14 := F14.binds (ps := ["self"]) fun _ _ _ _ _ _ us hl => match us, hl with | [_], _ => rfl
  have F15 := fun_mk (st := s_Store_len) l15 c15 k15
  have b15 := F15.binds (ps := ["self"]) fun _ _ _ _ _ _ us hl => match us, hl with | [_], _ => rfl
  have F16 := fun_mk (st := s_Store_add) l16 c16 k16
  have b16 := F16.binds (ps := ["self", "layer", "box"]) fun _ _ _ _ _ _ us hl => match us, hl with | [_, _, _], _ => rfl
  have F17 := fun_mk (st := s_Store_remove) l17 c17 k17
  have b17 := F17.binds (ps := ["self", "number"]) fun _ _ _ _ _ _ us hl => match us, hl with | [_, _], _ => rfl
  have F18 := fun_mk (st := s_Store_shape) l18 c18 k18
  have b18 := F18.binds (ps := ["self", "number"]) fun _ _ _ _ _ _ us hl => match us, hl with | [_, _], _ => rfl
  have F19 := fun_mk (st := s_Store_find) l19 c19 k19
  have b19 := F19.binds (ps := ["self", "layer", "window"]) fun _ _ _ _ _ _ us hl => match us, hl with | [_, _, _], _ => rfl
  have F20 := fun_mk (st := s_Store_find_square) l20 c20 k20
  have b20 := F20.binds (ps := ["self", "layer", "x", "y"]) fun _ _ _ _ _ _ us hl => match us, hl with | [_, _, _, _], _ => rfl
  have F21 := fun_mk (st := s_Store_numbers) l21 c21 k21
  have b21 := F21.binds (ps := ["self"]) fun _ _ _ _ _ _ us hl => match us, hl with | [_], _ => rfl
  have F22 := fun_mk (st := s_Store_mark) l22 c22 k22
  have b22 := F22.binds (ps := ["self"]) fun _ _ _ _ _ _ us hl => match us, hl with | [_], _ => rfl
  have F23 := fun_mk (st := s_Store_undo) l23 c23 k23
  have b23 := F23.binds (ps := ["self"]) fun _ _ _ _ _ _ us hl => match us, hl with | [_], _ => rfl
  have F24 := fun_mk (st := s_Store_redo) l24 c24 k24
  have b24 := F24.binds (ps := ["self"]) fun _ _ _ _ _ _ us hl => match us, hl with | [_], _ => rfl
  have F25 := fun_mk (st := s_Store_back_to) l25 c25 k25
  have b25 := F25.binds (ps := ["self", "mark"]) fun _ _ _ _ _ _ us hl => match us, hl with | [_, _], _ => rfl
  have F26 := fun_mk (st := s_Store_change) l26 c26 k26
  have b26 := F26.binds (ps := ["self", "kind", "number"]) fun _ _ _ _ _ _ us hl => match us, hl with | [_, _, _], _ => rfl
  have F27 := fun_mk (st := s_Store_carry_out) l27 c27 k27
  have b27 := F27.binds (ps := ["self", "kind", "number"]) fun _ _ _ _ _ _ us hl => match us, hl with | [_, _, _], _ => rfl
  have F28 := fun_mk (st := s_Store_put_in) l28 c28 k28
  have b28 := F28.binds (ps := ["self", "number"]) fun _ _ _ _ _ _ us hl => match us, hl with | [_, _], _ => rfl
  have F29 := fun_mk (st := s_Store_take_out) l29 c29 k29
  have b29 := F29.binds (ps := ["self", "number"]) fun _ _ _ _ _ _ us hl => match us, hl with | [_, _], _ => rfl
  have F30 := fun_mk (st := s_law_cell) l30 c30 k30
  have b30 := F30.binds (ps := ["script", "k"]) fun _ _ _ _ _ _ us hl => match us, hl with | [_, _], _ => rfl
  have F31 := fun_mk (st := s_law_draws) l31 c31 k31
  have b31 := F31.binds (ps := ["cell", "count"]) fun _ _ _ _ _ _ us hl => match us, hl with | [_, _], _ => rfl
  have F32 := fun_mk (st := s_law_is_int) l32 c32 k32
  have b32 := F32.binds (ps := ["x"]) fun _ _ _ _ _ _ us hl => match us, hl with | [_], _ => rfl
  have F33 := fun_mk (st := s_law_ints_list) l33 c33 k33
  have b33 := F33.binds (ps := ["x", "kind"]) fun _ _ _ _ _ _ us hl => match us, hl with | [_, _], _ => rfl
  have F34 := fun_mk (st := s_law_is_list) l34 c34 k34
  have b34 := F34.binds (ps := ["x", "due"]) fun _ _ _ _ _ _ us hl => match us, hl with | [_, _], _ => rfl
  have F35 := fun_mk (st := s_law_is_number) l35 c35 k35
  have b35 := F35.binds (ps := ["x", "due"]) fun _ _ _ _ _ _ us hl => match us, hl with | [_, _], _ => rfl
  have F36 := fun_mk (st := s_law_box_of) l36 c36 k36
  have b36 := F36.binds (ps := ["draw", "more"]) fun _ _ _ _ _ _ us hl => match us, hl with | [_, _], _ => rfl
  have F37 := fun_mk (st := s_law_in) l37 c37 k37
  have b37 := F37.binds (ps := ["box", "x", "y"]) fun _ _ _ _ _ _ us hl => match us, hl with | [_, _, _], _ => rfl
  have F38 := fun_mk (st := s_law_like_int) l38 c38 k38
  have b38 := F38.binds (ps := ["actual", "due"]) fun _ _ _ _ _ _ us hl => match us, hl with | [_, _], _ => rfl
  have F39 := fun_mk (st := s_law_qmeets) l39 c39 k39
  have b39 := F39.binds (ps := ["box", "window"]) fun _ _ _ _ _ _ us hl => match us, hl with | [_, _], _ => rfl
  have F40 := fun_mk (st := s_law_qstore_is) l40 c40 k40
  have b40 := F40.binds (ps := ["store", "rows", "windows"]) fun _ _ _ _ _ _ us hl => match us, hl with | [_, _, _], _ => rfl
  have F41 := fun_mk (st := s_law_qtry_us) l41 c41 k41
  have b41 := F41.binds (ps := ["store", "kind", "number"]) fun _ _ _ _ _ _ us hl => match us, hl with | [_, _, _], _ => rfl
  have F42 := fun_mk (st := s_law_change) l42 c42 k42
  have b42 := F42.binds (ps := ["store", "m", "draws"]) fun _ _ _ _ _ _ us hl => match us, hl with | [_, _, _], _ => rfl
  have F43 := fun_mk (st := s_law_deed) l43 c43 k43
  have b43 := F43.binds (ps := ["store", "m", "draws"]) fun _ _ _ _ _ _ us hl => match us, hl with | [_, _, _], _ => rfl
  have F44 := fun_mk (st := s_law) l44 c44 k44
  refine ⟨PySem.W.fnOf "law" "law" (defArgs s_law) (defBody s_law) (defScope s_law) .none kV44 dc44 pm44 an44 cd44 ct44, fun s v => .of_eq rfl, fun base _ _ => ?_⟩
  have G_is_box : Fn l.prog w K mg base "is_box" 1 R_is_box := fn_wrap (PySem.W.mg_of X G a0) b0 F0.kp (ok_is_box F0 B KC KL XF )
  have G_inner_sides : Fn l.prog w K mg base "inner_sides" 1 R_inner_sides := fn_wrap (PySem.W.mg_of X G a1) b1 F1.kp (ok_inner_sides F1 B KC KL XF )
  have G_hull : Fn l.prog w K mg base "hull" 1 R_hull := fn_wrap (PySem.W.mg_of X G a3) b3 F3.kp (ok_hull F3 B KC KL XF )
  have G_middle_x : Fn l.prog w K mg base "middle_x" 1 R_middle_x := fn_wrap (PySem.W.mg_of X G a4) b4 F4.kp (ok_middle_x F4 B KC KL XF )
  have G_middle_y : Fn l.prog w K mg base "middle_y" 1 R_middle_y := fn_wrap (PySem.W.mg_of X G a5) b5 F5.kp (ok_middle_y F5 B KC KL XF )
  have G_LayerIndex_put_in : FnML l.prog w K mg base "LayerIndex" "put_in" 1 R_LayerIndex_put_in := ⟨⟨C_LayerIndex, f10, _, _, aC_LayerIndex, ⟨pg_LayerIndex, hd_LayerIndex, po_LayerIndex, sa_LayerIndex⟩, ⟨a10, i10, k10⟩, ok_LayerIndex_put_in F10 B KC KL XF , b10⟩⟩
  have G_LayerIndex_take_out : FnML l.prog w K mg base "LayerIndex" "take_out" 1 R_LayerIndex_take_out := ⟨⟨C_LayerIndex, f11, _, _, aC_LayerIndex, ⟨pg_LayerIndex, hd_LayerIndex, po_LayerIndex, sa_LayerIndex⟩, ⟨a11, i11, k11⟩, ok_LayerIndex_take_out F11 B KC KL XF , b11⟩⟩
  have G_Store_len : FnM l.prog w K mg base "Store" "__len__" 1 R_Store_len := ⟨⟨C_Store, f15, _, _, aC_Store, ⟨pg_Store, hd_Store, po_Store, sa_Store⟩, ⟨a15, i15, k15⟩, ok_Store_len F15 B KC KL XF , b15⟩⟩
  have G_Store_shape : FnM l.prog w K mg base "Store" "shape" 1 R_Store_shape := ⟨⟨C_Store, f18, _, _, aC_Store, ⟨pg_Store, hd_Store, po_Store, sa_Store⟩, ⟨a18, i18, k18⟩, ok_Store_shape F18 B KC KL XF , b18⟩⟩
  have G_Store_numbers : FnMO l.prog w K mg base "Store" "numbers" 1 R_Store_numbers := ⟨⟨C_Store, f21, _, _, aC_Store, ⟨pg_Store, hd_Store, po_Store, sa_Store⟩, ⟨a21, i21, k21⟩, ok_Store_numbers F21 B KC KL XF , b21⟩⟩
  have G_Store_mark : FnP l.prog w K mg base "Store" "mark" 1 R_Store_mark := ⟨⟨C_Store, p22, f22, _, _, aC_Store, ⟨pg_Store, hd_Store, po_Store, sa_Store⟩, ⟨a22, pg22, pt22, ⟨_, pr22⟩⟩, ok_Store_mark F22 B KC KL XF , b22⟩⟩
  have G_law_cell : Fn l.prog w K mg base "_law_cell" 1 R_law_cell := fn_wrap (PySem.W.mg_of X G a30) b30 F30.kp (ok_law_cell F30 B KC KL XF )
  have G_law_draws : Fn l.prog w K mg base "_law_draws" 1 R_law_draws := fn_wrap (PySem.W.mg_of X G a31) b31 F31.kp (ok_law_draws F31 B KC KL XF )
  have G_law_is_int : Fn l.prog w K mg base "_law_is_int" 1 R_law_is_int := fn_wrap (PySem.W.mg_of X G a32) b32 F32.kp (ok_law_is_int F32 B KC KL XF )
  have G_law_box_of : Fn l.prog w K mg base "_law_box_of" 1 R_law_box_of := fn_wrap (PySem.W.mg_of X G a36) b36 F36.kp (ok_law_box_of F36 B KC KL XF )
  have G_law_in : Fn l.prog w K mg base "_law_in" 1 R_law_in := fn_wrap (PySem.W.mg_of X G a37) b37 F37.kp (ok_law_in F37 B KC KL XF )
  have G_law_qmeets : Fn l.prog w K mg base "_law_qmeets" 1 R_law_qmeets := fn_wrap (PySem.W.mg_of X G a39) b39 F39.kp (ok_law_qmeets F39 B KC KL XF )
  have G_overlap : Fn l.prog w K mg base "overlap" 2 R_overlap := fn_wrap (PySem.W.mg_of X G a2) b2 F2.kp (ok_overlap F2 B KC KL XF G_inner_sides G_is_box)
  have G_Store_put_in : FnML l.prog w K mg base "Store" "_put_in" 2 R_Store_put_in := ⟨⟨C_Store, f28, _, _, aC_Store, ⟨pg_Store, hd_Store, po_Store, sa_Store⟩, ⟨a28, i28, k28⟩, ok_Store_put_in F28 B KC KL XF G_LayerIndex_put_in, b28⟩⟩
  have G_Store_take_out : FnML l.prog w K mg base "Store" "_take_out" 2 R_Store_take_out := ⟨⟨C_Store, f29, _, _, aC_Store, ⟨pg_Store, hd_Store, po_Store, sa_Store⟩, ⟨a29, i29, k29⟩, ok_Store_take_out F29 B KC KL XF G_LayerIndex_take_out, b29⟩⟩
  have G_law_ints_list : Fn l.prog w K mg base "_law_ints" 2 R_law_ints_list := fn_wrap (PySem.W.mg_of X G a33) b33 F33.kp (ok_law_ints_list F33 B KC KL XF G_law_is_int)
  have G_law_is_number : Fn l.prog w K mg base "_law_is_number" 2 R_law_is_number := fn_wrap (PySem.W.mg_of X G a35) b35 F35.kp (ok_law_is_number F35 B KC KL XF G_law_is_int)
  have GX_Store_undo : FnMXG l.prog w K mg base "Store" "undo" 3 RX_Store_undo := ⟨⟨C_Store, f23, _, _, aC_Store, ⟨pg_Store, hd_Store, po_Store, sa_Store⟩, ⟨a23, i23, k23⟩, okX_Store_undo F23 B KC KL XF , b23⟩⟩
  have G_Store_undo : FnML l.prog w K mg base "Store" "undo" 3 R_Store_undo := ⟨⟨C_Store, f23, _, _, aC_Store, ⟨pg_Store, hd_Store, po_Store, sa_Store⟩, ⟨a23, i23, k23⟩, ok_Store_undo F23 B KC KL XF G_Store_put_in G_Store_take_out, b23⟩⟩
  have G_Store_carry_out : FnML l.prog w K mg base "Store" "_carry_out" 3 R_Store_carry_out := ⟨⟨C_Store, f27, _, _, aC_Store, ⟨pg_Store, hd_Store, po_Store, sa_Store⟩, ⟨a27, i27, k27⟩, ok_Store_carry_out F27 B KC KL XF G_Store_put_in G_Store_take_out, b27⟩⟩
  have G_law_is_list : Fn l.prog w K mg base "_law_is_list" 3 R_law_is_list := fn_wrap (PySem.W.mg_of X G a34) b34 F34.kp (ok_law_is_list F34 B KC KL XF G_law_ints_list G_law_ints_list)
  have G_along_longer_side : Fn l.prog w K mg base "along_longer_side" 4 R_along_longer_side := fn_wrap (PySem.W.mg_of X G a6) b6 F6.kp (ok_along_longer_side F6 B KC KL XF G_middle_x G_middle_y)
  have GX_Store_redo : FnMXG l.prog w K mg base "Store" "redo" 4 RX_Store_redo := ⟨⟨C_Store, f24, _, _, aC_Store, ⟨pg_Store, hd_Store, po_Store, sa_Store⟩, ⟨a24, i24, k24⟩, okX_Store_redo F24 B KC KL XF , b24⟩⟩
  have G_Store_redo : FnML l.prog w K mg base "Store" "redo" 4 R_Store_redo := ⟨⟨C_Store, f24, _, _, aC_Store, ⟨pg_Store, hd_Store, po_Store, sa_Store⟩, ⟨a24, i24, k24⟩, ok_Store_redo F24 B KC KL XF G_Store_carry_out, b24⟩⟩
  have GX_Store_back_to : FnMXG l.prog w K mg base "Store" "back_to" 4 RX_Store_back_to := ⟨⟨C_Store, f25, _, _, aC_Store, ⟨pg_Store, hd_Store, po_Store, sa_Store⟩, ⟨a25, i25, k25⟩, okX_Store_back_to F25 B KC KL XF , b25⟩⟩
  have G_Store_back_to : FnML l.prog w K mg base "Store" "back_to" 4 R_Store_back_to := ⟨⟨C_Store, f25, _, _, aC_Store, ⟨pg_Store, hd_Store, po_Store, sa_Store⟩, ⟨a25, i25, k25⟩, ok_Store_back_to F25 B KC KL XF G_Store_undo, b25⟩⟩
  have G_Store_change : FnML l.prog w K mg base "Store" "_change" 4 R_Store_change := ⟨⟨C_Store, f26, _, _, aC_Store, ⟨pg_Store, hd_Store, po_Store, sa_Store⟩, ⟨a26, i26, k26⟩, ok_Store_change F26 B KC KL XF G_Store_carry_out, b26⟩⟩
  have G_Store_add : FnML l.prog w K mg base "Store" "add" 5 R_Store_add := ⟨⟨C_Store, f16, _, _, aC_Store, ⟨pg_Store, hd_Store, po_Store, sa_Store⟩, ⟨a16, i16, k16⟩, ok_Store_add F16 B KC KL XF G_Store_change, b16⟩⟩
  have G_Store_remove : FnML l.prog w K mg base "Store" "remove" 5 R_Store_remove := ⟨⟨C_Store, f17, _, _, aC_Store, ⟨pg_Store, hd_Store, po_Store, sa_Store⟩, ⟨a17, i17, k17⟩, ok_Store_remove F17 B KC KL XF G_Store_change, b17⟩⟩
  have G_Tree_find_leaf : FnMO l.prog w K mg base "Tree" "find" 3 R_Tree_find_leaf := ⟨⟨C_Tree, f8, _, _, aC_Tree, ⟨pg_Tree, hd_Tree, po_Tree, sa_Tree⟩, ⟨a8, i8, k8⟩, ok_Tree_find_leaf F8 B KC KL XF G_overlap, b8⟩⟩
  have G_Tree_find_n1 : FnMO l.prog w K mg base "Tree" "find" 4 R_Tree_find_n1 := ⟨⟨C_Tree, f8, _, _, aC_Tree, ⟨pg_Tree, hd_Tree, po_Tree, sa_Tree⟩, ⟨a8, i8, k8⟩, ok_Tree_find_n1 F8 B KC KL XF G_Tree_find_leaf G_overlap, b8⟩⟩
  have G_Tree_find_n2 : FnMO l.prog w K mg base "Tree" "find" 5 R_Tree_find_n2 := ⟨⟨C_Tree, f8, _, _, aC_Tree, ⟨pg_Tree, hd_Tree, po_Tree, sa_Tree⟩, ⟨a8, i8, k8⟩, ok_Tree_find_n2 F8 B KC KL XF G_Tree_find_leaf G_Tree_find_n1 G_overlap, b8⟩⟩
  have G_Tree_find_n3 : FnMO l.prog w K mg base "Tree" "find" 6 R_Tree_find_n3 := ⟨⟨C_Tree, f8, _, _, aC_Tree, ⟨pg_Tree, hd_Tree, po_Tree, sa_Tree⟩, ⟨a8, i8, k8⟩, ok_Tree_find_n3 F8 B KC KL XF G_Tree_find_leaf G_Tree_find_n2 G_overlap, b8⟩⟩
  have G_law_like_int : Fn l.prog w K mg base "_law_like" 1 R_law_like_int := fn_wrap (PySem.W.mg_of X G a38) b38 F38.kp (ok_law_like_int F38 B KC KL XF )
  have G_law_like_str : Fn l.prog w K mg base "_law_like" 2 R_law_like_str := fn_wrap (PySem.W.mg_of X G a38) b38 F38.kp (ok_law_like_str F38 B KC KL XF )
  have G_law_like_m1 : Fn l.prog w K mg base "_law_like" 3 R_law_like_m1 := fn_wrap (PySem.W.mg_of X G a38) b38 F38.kp (ok_law_like_m1 F38 B KC KL XF G_law_like_int G_law_like_str)
  have G_law_like_m2 : Fn l.prog w K mg base "_law_like" 4 R_law_like_m2 := fn_wrap (PySem.W.mg_of X G a38) b38 F38.kp (ok_law_like_m2 F38 B KC KL XF G_law_like_int G_law_like_m1 G_law_like_str)
  have G_law_like_m3 : Fn l.prog w K mg base "_law_like" 5 R_law_like_m3 := fn_wrap (PySem.W.mg_of X G a38) b38 F38.kp (ok_law_like_m3 F38 B KC KL XF G_law_like_int G_law_like_m2 G_law_like_str)
  have G_law_like_m4 : Fn l.prog w K mg base "_law_like" 6 R_law_like_m4 := fn_wrap (PySem.W.mg_of X G a38) b38 F38.kp (ok_law_like_m4 F38 B KC KL XF G_law_like_int G_law_like_m3 G_law_like_str)
  have G_law_change : FnL l.prog w K mg base "_law_change" 6 R_law_change := ⟨⟨_, _, _, ok_law_change F42 B KC KL XF G_Store_add G_Store_remove G_law_box_of G_law_is_number, PySem.W.mg_of X G a42, F42.kp, b42⟩⟩
  have G_law_qtry_us : Fn l.prog w K mg base "_law_qtry" 6 R_law_qtry_us := fn_wrap (PySem.W.mg_of X G a41) b41 F41.kp (ok_law_qtry_us F41 B KC KL XF GX_Store_back_to GX_Store_redo GX_Store_undo)
  have G_law_qtry_ul : FnL l.prog w K mg base "_law_qtry" 7 R_law_qtry_ul := ⟨⟨_, _, _, ok_law_qtry_ul F41 B KC KL XF G_Store_back_to G_Store_redo G_Store_undo, PySem.W.mg_of X G a41, F41.kp, b41⟩⟩
  have G_law_deed : FnL l.prog w K mg base "_law_deed" 8 R_law_deed := ⟨⟨_, _, _, ok_law_deed F43 B KC KL XF G_law_change G_law_qtry_ul G_law_qtry_us, PySem.W.mg_of X G a43, F43.kp, b43⟩⟩
  have G_Tree_init_d0 : FnI l.prog w K mg base "Tree" 5 R_Tree_init_d0 := ⟨⟨C_Tree, f7, _, _, aC_Tree, PySem.W.mg_of X G aC_Tree, ⟨mk_Tree, a7, i7, kc_Tree⟩, ok_Tree_init_d0 F7 B KC KL XF , b7⟩⟩
  have G_Tree_init_d1 : FnI l.prog w K mg base "Tree" 7 R_Tree_init_d1 := ⟨⟨C_Tree, f7, _, _, aC_Tree, PySem.W.mg_of X G aC_Tree, ⟨mk_Tree, a7, i7, kc_Tree⟩, ok_Tree_init_d1 F7 B KC KL XF G_Tree_init_d0 G_Tree_init_d0 G_along_longer_side G_hull, b7⟩⟩
  have G_Tree_init_d2 : FnI l.prog w K mg base "Tree" 9 R_Tree_init_d2 := ⟨⟨C_Tree, f7, _, _, aC_Tree, PySem.W.mg_of X G aC_Tree, ⟨mk_Tree, a7, i7, kc_Tree⟩, ok_Tree_init_d2 F7 B KC KL XF G_Tree_init_d1 G_Tree_init_d1 G_along_longer_side G_hull, b7⟩⟩
  have G_Tree_init_d3 : FnI l.prog w K mg base "Tree" 11 R_Tree_init_d3 := ⟨⟨C_Tree, f7, _, _, aC_Tree, PySem.W.mg_of X G aC_Tree, ⟨mk_Tree, a7, i7, kc_Tree⟩, ok_Tree_init_d3 F7 B KC KL XF G_Tree_init_d2 G_Tree_init_d2 G_along_longer_side G_hull, b7⟩⟩
  have G_LayerIndex_init : FnIL l.prog w K mg base "LayerIndex" 13 R_LayerIndex_init := ⟨⟨C_LayerIndex, f9, _, _, aC_LayerIndex, PySem.W.mg_of X G aC_LayerIndex, ⟨mk_LayerIndex, a9, i9, kc_LayerIndex⟩, ok_LayerIndex_init F9 B KC KL XF G_Tree_init_d3 G_Tree_init_d3, b9⟩⟩
  have G_LayerIndex_refresh : FnML l.prog w K mg base "LayerIndex" "_refresh" 13 R_LayerIndex_refresh := ⟨⟨C_LayerIndex, f13, _, _, aC_LayerIndex, ⟨pg_LayerIndex, hd_LayerIndex, po_LayerIndex, sa_LayerIndex⟩, ⟨a13, i13, k13⟩, ok_LayerIndex_refresh F13 B KC KL XF G_Tree_init_d3 G_Tree_init_d3, b13⟩⟩
  have G_LayerIndex_find : FnML l.prog w K mg base "LayerIndex" "find" 14 R_LayerIndex_find := ⟨⟨C_LayerIndex, f12, _, _, aC_LayerIndex, ⟨pg_LayerIndex, hd_LayerIndex, po_LayerIndex, sa_LayerIndex⟩, ⟨a12, i12, k12⟩, ok_LayerIndex_find F12 B KC KL XF G_LayerIndex_refresh G_Tree_find_leaf G_Tree_find_n3 G_overlap, b12⟩⟩
  have G_Store_init : FnIL l.prog w K mg base "Store" 15 R_Store_init := ⟨⟨C_Store, f14, _, _, aC_Store, PySem.W.mg_of X G aC_Store, ⟨mk_Store, a14, i14, kc_Store⟩, ok_Store_init F14 B KC KL XF G_LayerIndex_init, b14⟩⟩
  have G_Store_find : FnML l.prog w K mg base "Store" "find" 15 R_Store_find := ⟨⟨C_Store, f19, _, _, aC_Store, ⟨pg_Store, hd_Store, po_Store, sa_Store⟩, ⟨a19, i19, k19⟩, ok_Store_find F19 B KC KL XF G_LayerIndex_find, b19⟩⟩
  have G_Store_find_square : FnML l.prog w K mg base "Store" "find_square" 16 R_Store_find_square := ⟨⟨C_Store, f20, _, _, aC_Store, ⟨pg_Store, hd_Store, po_Store, sa_Store⟩, ⟨a20, i20, k20⟩, ok_Store_find_square F20 B KC KL XF G_Store_find, b20⟩⟩
  have G_law_qstore_is : FnL l.prog w K mg base "_law_qstore_is" 17 R_law_qstore_is := ⟨⟨_, _, _, ok_law_qstore_is F40 B KC KL XF G_Store_len G_Store_find G_Store_find_square G_Store_numbers G_Store_shape G_law_in G_law_is_list G_law_is_number G_law_like_m4 G_law_qmeets, PySem.W.mg_of X G a40, F40.kp, b40⟩⟩
  exact ok_law F44 B KC KL XF G_Store_init G_Store_mark G_law_box_of G_law_cell G_law_deed G_law_draws G_law_is_number G_law_qstore_is
end DL
open PySem PySem.W PyProof.Rows
local macro_rules | `(tactic| walk_at "kd") => `(tactic| first | exact DL.kd_int | exact DL.kd_bl | exact DL.kd_str | (refine' DL.kd_tup ?l ?c ?e ?z ?r; (case l => k_is); (case c => rfl); (case e => rfl); (case z => decide); (case r => walk_at "kds")))
local macro_rules | `(tactic| walk_at "kds") => `(tactic| first | exact DL.kds_nil | (refine' DL.kds_cons ?a ?b; (case a => walk_at "kd"); (case b => walk_at "kds")))
set_option maxRecDepth 100000 in
set_option maxHeartbeats 0 in
theorem PySem.Challenge.cw_reticle_k34_whole_undo_and_redo_holds : PySem.Challenge.rw_reticle_k34_whole_undo_and_redo.Holds := by
  w_on; o_law; k_head; (case hw => w_witness2)
  k_fill
  refine DL.walk_law (l := PySem.Challenge.rw_reticle_k34_whole_undo_and_redo) (k := 18) rfl ⟨rfl, by decide, by decide⟩ rfl (fun w h Y => PySem.W.kIn_of Y) ?F
  case F =>
    intro w mg fa h KX G hmg
    refine' DL.all_mk KX G hmg ?aC_Tree ?pg_Tree ?hd_Tree ?po_Tree ?sa_Tree ?ha_Tree ?hn_Tree ?htk_Tree ?hm_Tree ?kc_Tree ?mk_Tree ?na0_Tree ?na1_Tree ?na2_Tree ?aC_LayerIndex ?pg_LayerIndex ?hd_LayerIndex ?po_LayerIndex ?sa_LayerIndex ?ha_LayerIndex ?hn_LayerIndex ?htk_LayerIndex ?hm_LayerIndex ?kc_LayerIndex ?mk_LayerIndex ?na0_LayerIndex ?na1_LayerIndex ?na2_LayerIndex ?na3_LayerIndex ?aC_Store ?pg_Store ?hd_Store ?po_Store ?sa_Store ?ha_Store ?hn_Store ?htk_Store ?hm_Store ?kc_Store ?mk_Store ?na0_Store ?na1_Store ?na2_Store ?na3_Store ?na4_Store ?a0 ?l0 ?c0 ?k0 ?a1 ?l1 ?c1 ?k1 ?a2 ?l2 ?c2 ?k2 ?a3 ?l3 ?c3 ?k3 ?a4 ?l4 ?c4 ?k4 ?a5 ?l5 ?c5 ?k5 ?a6 ?l6 ?c6 ?k6 ?a7 ?i7 ?l7 ?c7 ?k7 ?a8 ?i8 ?l8 ?c8 ?k8 ?a9 ?i9 ?l9 ?c9 ?k9 ?a10 ?i10 ?l10 ?c10 ?k10 ?a11 ?i11 ?l11 ?c11 ?k11 ?a12 ?i12 ?l12 ?c12 ?k12 ?a13 ?i13 ?l13 ?c13 ?k13 ?a14 ?i14 ?l14 ?c14 ?k14 ?a15 ?i15 ?l15 ?c15 ?k15 ?a16 ?i16 ?l16 ?c16 ?k16 ?a17 ?i17 ?l17 ?c17 ?k17 ?a18 ?i18 ?l18 ?c18 ?k18 ?a19 ?i19 ?l19 ?c19 ?k19 ?a20 ?i20 ?l20 ?c20 ?k20 ?a21 ?i21 ?l21 ?c21 ?k21 ?a22 ?pg22 ?pt22 ?pr22 ?l22 ?c22 ?k22 ?a23 ?i23 ?l23 ?c23 ?k23 ?a24 ?i24 ?l24 ?c24 ?k24 ?a25 ?i25 ?l25 ?c25 ?k25 ?a26 ?i26 ?l26 ?c26 ?k26 ?a27 ?i27 ?l27 ?c27 ?k27 ?a28 ?i28 ?l28 ?c28 ?k28 ?a29 ?i29 ?l29 ?c29 ?k29 ?a30 ?l30 ?c30 ?k30 ?a31 ?l31 ?c31 ?k31 ?a32 ?l32 ?c32 ?k32 ?a33 ?l33 ?c33 ?k33 ?a34 ?l34 ?c34 ?k34 ?a35 ?l35 ?c35 ?k35 ?a36 ?l36 ?c36 ?k36 ?a37 ?l37 ?c37 ?k37 ?a38 ?l38 ?c38 ?k38 ?a39 ?l39 ?c39 ?k39 ?a40 ?l40 ?c40 ?k40 ?a41 ?l41 ?c41 ?k41 ?a42 ?l42 ?c42 ?k42 ?a43 ?l43 ?c43 ?k43 ?a44 ?l44 ?c44 ?k44 ?z_all ?z_bool ?z_int ?z_isinstance ?z_len ?z_list ?z_max ?z_min ?z_range ?z_sorted ?z_str ?z_tuple ?y_ADDED ?w_ADDED ?y_LAYERS ?w_LAYERS ?y_LEAF_SIZE ?w_LEAF_SIZE ?y_REMOVED ?w_REMOVED ?y_SLACK ?w_SLACK ?ea_NothingToUndo ?es_NothingToUndo ?ed_NothingToUndo ?et_NothingToUndo ?eq_NothingToUndo ?ek_NothingToUndo ?eg_NothingToUndo ?en_NothingToUndo ?ec_NothingToUndo ?ep_NothingToUndo ?ex_NothingToUndo ?em_NothingToUndo ?ea_NothingToRedo ?es_NothingToRedo ?ed_NothingToRedo ?et_NothingToRedo ?eq_NothingToRedo ?ek_NothingToRedo ?eg_NothingToRedo ?en_NothingToRedo ?ec_NothingToRedo ?ep_NothingToRedo ?ex_NothingToRedo ?em_NothingToRedo ?ea_UnknownMark ?es_UnknownMark ?ed_UnknownMark ?et_UnknownMark ?eq_UnknownMark ?ek_UnknownMark ?eg_UnknownMark ?en_UnknownMark ?ec_UnknownMark ?ep_UnknownMark ?ex_UnknownMark ?em_UnknownMark ?e4_mU ?e4_mR ?e4_mM ?e4_sUR ?e4_sUM ?ea_UnknownShape ?es_UnknownShape ?ed_UnknownShape ?et_UnknownShape ?e4_sUS ?e4_sRU ?e4_sRM ?e4_sRS ?e4_sMU ?e4_sMR ?e4_sMS
    (case aC_Tree => k_is); (case pg_Tree => k_is); (case hd_Tree => k_is); (case po_Tree => k_is); (case sa_Tree => k_is); (case ha_Tree => k_is); (case hn_Tree => k_is); (case htk_Tree => k_is)
    (case hm_Tree => k_is); (case kc_Tree => k_is); (case mk_Tree => k_is); (case na0_Tree => k_is); (case na1_Tree => k_is); (case na2_Tree => k_is); (case aC_LayerIndex => k_is); (case pg_LayerIndex => k_is)
    (case hd_LayerIndex => k_is); (case po_LayerIndex => k_is); (case sa_LayerIndex => k_is); (case ha_LayerIndex => k_is); (case hn_LayerIndex => k_is); (case htk_LayerIndex => k_is); (case hm_LayerIndex => k_is); (case kc_LayerIndex => k_is)
    (case mk_LayerIndex => k_is); (case na0_LayerIndex => k_is); (case na1_LayerIndex => k_is); (case na2_LayerIndex => k_is); (case na3_LayerIndex => k_is); (case aC_Store => k_is); (case pg_Store => k_is); (case hd_Store => k_is)
    (case po_Store => k_is); (case sa_Store => k_is); (case ha_Store => k_is); (case hn_Store => k_is); (case htk_Store => k_is); (case hm_Store => k_is); (case kc_Store => k_is); (case mk_Store => k_is)
    (case na0_Store => k_is); (case na1_Store => k_is); (case na2_Store => k_is); (case na3_Store => k_is); (case na4_Store => k_is); (case a0 => k_is); (case l0 => k_is); (case c0 => k_is)
    (case k0 => k_is); (case a1 => k_is); (case l1 => k_is); (case c1 => k_is); (case k1 => k_is); (case a2 => k_is); (case l2 => k_is); (case c2 => k_is)
    (case k2 => k_is); (case a3 => k_is); (case l3 => k_is); (case c3 => k_is); (case k3 => k_is); (case a4 => k_is); (case l4 => k_is); (case c4 => k_is)
    (case k4 => k_is); (case a5 => k_is); (case l5 => k_is); (case c5 => k_is); (case k5 => k_is); (case a6 => k_is); (case l6 => k_is); (case c6 => k_is)
    (case k6 => k_is); (case a7 => k_is); (case i7 => k_is); (case l7 => k_is); (case c7 => k_is); (case k7 => k_is); (case a8 => k_is); (case i8 => k_is)
    (case l8 => k_is); (case c8 => k_is); (case k8 => k_is); (case a9 => k_is); (case i9 => k_is); (case l9 => k_is); (case c9 => k_is); (case k9 => k_is)
    (case a10 => k_is); (case i10 => k_is); (case l10 => k_is); (case c10 => k_is); (case k10 => k_is); (case a11 => k_is); (case i11 => k_is); (case l11 => k_is)
    (case c11 => k_is); (case k11 => k_is); (case a12 => k_is); (case i12 => k_is); (case l12 => k_is); (case c12 => k_is); (case k12 => k_is); (case a13 => k_is)
    (case i13 => k_is); (case l13 => k_is); (case c13 => k_is); (case k13 => k_is); (case a14 => k_is); (case i14 => k_is); (case l14 => k_is); (case c14 => k_is)
    (case k14 => k_is); (case a15 => k_is); (case i15 => k_is); (case l15 => k_is); (case c15 => k_is); (case k15 => k_is); (case a16 => k_is); (case i16 => k_is)
    (case l16 => k_is); (case c16 => k_is); (case k16 => k_is); (case a17 => k_is); (case i17 => k_is); (case l17 => k_is); (case c17 => k_is); (case k17 => k_is)
    (case a18 => k_is); (case i18 => k_is); (case l18 => k_is); (case c18 => k_is); (case k18 => k_is); (case a19 => k_is); (case i19 => k_is); (case l19 => k_is)
    (case c19 => k_is); (case k19 => k_is); (case a20 => k_is); (case i20 => k_is); (case l20 => k_is); (case c20 => k_is); (case k20 => k_is); (case a21 => k_is)
    (case i21 => k_is); (case l21 => k_is); (case c21 => k_is); (case k21 => k_is); (case a22 => k_is); (case pg22 => k_is); (case pt22 => k_is); (case pr22 => k_is)
    (case l22 => k_is); (case c22 => k_is); (case k22 => k_is); (case a23 => k_is); (case i23 => k_is); (case l23 => k_is); (case c23 => k_is); (case k23 => k_is)
    (case a24 => k_is); (case i24 => k_is); (case l24 => k_is); (case c24 => k_is); (case k24 => k_is); (case a25 => k_is); (case i25 => k_is); (case l25 => k_is)
    (case c25 => k_is); (case k25 => k_is); (case a26 => k_is); (case i26 => k_is); (case l26 => k_is); (case c26 => k_is); (case k26 => k_is); (case a27 => k_is)
    (case i27 => k_is); (case l27 => k_is); (case c27 => k_is); (case k27 => k_is); (case a28 => k_is); (case i28 => k_is); (case l28 => k_is); (case c28 => k_is)
    (case k28 => k_is); (case a29 => k_is); (case i29 => k_is); (case l29 => k_is); (case c29 => k_is); (case k29 => k_is); (case a30 => k_is); (case l30 => k_is)
    (case c30 => k_is); (case k30 => k_is); (case a31 => k_is); (case l31 => k_is); (case c31 => k_is); (case k31 => k_is); (case a32 => k_is); (case l32 => k_is)
    (case c32 => k_is); (case k32 => k_is); (case a33 => k_is); (case l33 => k_is); (case c33 => k_is); (case k33 => k_is); (case a34 => k_is); (case l34 => k_is)
    (case c34 => k_is); (case k34 => k_is); (case a35 => k_is); (case l35 => k_is); (case c35 => k_is); (case k35 => k_is); (case a36 => k_is); (case l36 => k_is)
    (case c36 => k_is); (case k36 => k_is); (case a37 => k_is); (case l37 => k_is); (case c37 => k_is); (case k37 => k_is); (case a38 => k_is); (case l38 => k_is)
    (case c38 => k_is); (case k38 => k_is); (case a39 => k_is); (case l39 => k_is); (case c39 => k_is); (case k39 => k_is); (case a40 => k_is); (case l40 => k_is)
    (case c40 => k_is); (case k40 => k_is); (case a41 => k_is); (case l41 => k_is); (case c41 => k_is); (case k41 => k_is); (case a42 => k_is); (case l42 => k_is)
    (case c42 => k_is); (case k42 => k_is); (case a43 => k_is); (case l43 => k_is); (case c43 => k_is); (case k43 => k_is); (case a44 => k_is); (case l44 => k_is)
    (case c44 => k_is); (case k44 => k_is); (case z_all => k_is); (case z_bool => k_is); (case z_int => k_is); (case z_isinstance => k_is); (case z_len => k_is); (case z_list => k_is)
    (case z_max => k_is); (case z_min => k_is); (case z_range => k_is); (case z_sorted => k_is); (case z_str => k_is); (case z_tuple => k_is); (case y_ADDED => k_is); (case w_ADDED => walk_at "kd")
    (case y_LAYERS => k_is); (case w_LAYERS => walk_at "kd"); (case y_LEAF_SIZE => k_is); (case w_LEAF_SIZE => walk_at "kd"); (case y_REMOVED => k_is); (case w_REMOVED => walk_at "kd"); (case y_SLACK => k_is); (case w_SLACK => walk_at "kd")
    (case ea_NothingToUndo => k_is); (case es_NothingToUndo => k_is); (case ed_NothingToUndo => k_is); (case et_NothingToUndo => k_is); (case eq_NothingToUndo => k_exc); (case ek_NothingToUndo => k_is); (case eg_NothingToUndo => k_is); (case en_NothingToUndo => k_is)
    (case ec_NothingToUndo => k_is); (case ep_NothingToUndo => k_is); (case ex_NothingToUndo => k_is); (case em_NothingToUndo => k_is); (case ea_NothingToRedo => k_is); (case es_NothingToRedo => k_is); (case ed_NothingToRedo => k_is); (case et_NothingToRedo => k_is)
    (case eq_NothingToRedo => k_exc); (case ek_NothingToRedo => k_is); (case eg_NothingToRedo => k_is); (case en_NothingToRedo => k_is); (case ec_NothingToRedo => k_is); (case ep_NothingToRedo => k_is); (case ex_NothingToRedo => k_is); (case em_NothingToRedo => k_is)
    (case ea_UnknownMark => k_is); (case es_UnknownMark => k_is); (case ed_UnknownMark => k_is); (case et_UnknownMark => k_is); (case eq_UnknownMark => k_exc); (case ek_UnknownMark => k_is); (case eg_UnknownMark => k_is); (case en_UnknownMark => k_is)
    (case ec_UnknownMark => k_is); (case ep_UnknownMark => k_is); (case ex_UnknownMark => k_is); (case em_UnknownMark => k_is); (case e4_mU => k_is); (case e4_mR => k_is); (case e4_mM => k_is); (case e4_sUR => k_is)
    (case e4_sUM => k_is); (case ea_UnknownShape => k_is); (case es_UnknownShape => k_is); (case ed_UnknownShape => k_is); (case et_UnknownShape => k_is); (case e4_sUS => k_is); (case e4_sRU => k_is); (case e4_sRM => k_is)
    (case e4_sRS => k_is); (case e4_sMU => k_is); (case e4_sMR => k_is); (case e4_sMS => k_is)
