import PyProof.Rows.All
import Wide.All
import OpenK.AllK
import Wide.FinOn
import HandS.ForMost
import HandS.Walk
import HandS.IsInst
import HandS.Style
import HandS.Defaults
import HandS.NoneIn
import PySem.Challenge.RW_reticle_k88_tables_of_circuits
import HandS.SetKeys
import HandS.SortRule
import HandS.SortInts
import HandS.More
import KE.KDictCopyH
import KE.KDictSum
import HandS.SetFor
import HandS.Flow
import HandS.SortKw
import HandS.ExcValue
import HandS.Deep
import KE.SortKeyHeap
import HandS.Strs
import KE.KDictList
import PyProof.Rows.TupTab
import HandS.TupLen
import HandS.Codes
import KE.SortData
import KE.KDictPairs
import HandS.TupAny
import HandS.DictComp
import PyProof.AutoSeq1
import HandS.SlotsOwn
import HandS.WordsExc
import HandS.ExcIs
import HandS.Small
import HandS.FStr
import HandS.DictTup
import KE.DatumOrd
import HandS.Conv
import PyProof.EnumMake
import PyProof.Draws
import KE.GoesMore
import HandS.Text
import HandS.Property
import PyProof.Rows.Range3
import KE.GoesEnumKw
import KE.GoesEnum
import HandS.Star
import HandS.WordsDict
import HandS.RaiseMore
import HandS.Zip
import HandS.CallLocal
import HandS.TupSets
import HandS.DictEq
import KE.KDictZip
import KE.KItemsList
import HandS.ListItems
import KE.KIndexOf
import HandS.Call
import KE.KExcSuper
import HandS.NestedK
import HandS.ExcInit
import HandS.ExcField
import HandS.ClsMeth
import HandS.ExcCtx
import HandS.HotCalls
import HandS.ExcInitHot
set_option Elab.async false
set_option linter.all false
set_option maxRecDepth 100000
set_option maxHeartbeats 4000000
namespace DL
open PySem PySem.Spec L2
inductive D where
  | non | bl (b : Bool) | int (i : Int) | str (x : Str) | ty (n : String)
  | lst (xs : List D) | tup (xs : List D)
  | dk (ks : List Key) (ds : List D) | dt (ks : List (List Key)) (ds : List D)
  | obj (cn : Str) (ns : List Str) (ds : List D)
  /-- what stands at a place -/
  | ad (a : Addr)
  /-- a tuple that is known to have no dict -/
  | ptp (xs : List D)
  /-- a tuple that is known to be no constant -/
  | etp (xs : List D)
  /-- an exception of an own class: where it is, where its dict is -/
  | exc (a x : Addr) (ns : List Str) (ds : List D)
mutual
def DR (K : PySem.W.Frag) (H : Hp) : D → V → Prop
  | .non, v => v = .non
  | .bl b, v => v = .bl b
  | .int i, v => v = .int i
  | .str x, v => v = .str x
  | .ty n, v => v = .ty n
  | .lst ds, v => ∃ a vs, v = .ref a ∧ SqL K H a vs ∧ DRs K H ds vs
  | .tup ds, v => ∃ a vs, v = .ref a ∧ SqT K H a vs ∧ DRs K H ds vs
  | .dk ks ds, v => ∃ a vs, v = .ref a ∧ Rd H a (.dK (ks.zip vs)) ∧ ks.length = vs.length ∧ DRs K H ds vs
  | .dt ks ds, v => ∃ a vs, v = .ref a ∧ Rd H a (.dT (ks.zip vs)) ∧ ks.length = vs.length ∧ DRs K H ds vs
  | .obj cn ns ds, v => ∃ a C dx vs, v = .ref a ∧ PySem.W.nsIn K mainGlobals cn = some (some (.ref C)) ∧ H a = some (.ins C dx (ns.zip vs)) ∧ ns.length = vs.length ∧ DRs K H ds vs
  | .ad a, v => v = .ref a
  | .ptp ds, v => ∃ a o vs, v = .ref a ∧ H a = some (.frz o (.tup vs)) ∧ o.dict = none ∧ DRs K H ds vs
  | .etp ds, v => ∃ a vs, v = .ref a ∧ H a = some (.tup vs) ∧ DRs K H ds vs
  | .exc a x ns ds, v => v = .ref a ∧ ∃ vs, H x = some (.xd (ns.zip vs)) ∧ ns.length = vs.length ∧ DRs K H ds vs
def DRs (K : PySem.W.Frag) (H : Hp) : List D → List V → Prop
  | [], vs => vs = []
  | d :: ds, vs => ∃ v r, vs = v :: r ∧ DR K H d v ∧ DRs K H ds r
end
theorem Same.seqT {K : PySem.W.Frag} {H H' : Hp} {a : Addr} {xs : List V} (e : Same H H') (h : SqT K H a xs) : SqT K H' a xs := by
  rcases h with (h | ⟨o, h⟩) | h
  · exact .inl (.inl (e _ _ h))
  · exact .inl (.inr ⟨o, e _ _ h⟩)
  · exact .inr h
theorem Same.rd {H H' : Hp} {a : Addr} {u : HO} (e : Same H H') (h : Rd H a u) : Rd H' a u := by
  rcases h with h | ⟨o, h⟩
  · exact .inl (e _ _ h)
  · exact .inr ⟨o, e _ _ h⟩
mutual
theorem DR.mono {K : PySem.W.Frag} {H H' : Hp} (e : Same H H') : ∀ (d : D) (v : V), DR K H d v → DR K H' d v
  | .non, v, h => h
  | .bl _, v, h => h
  | .int _, v, h => h
  | .str _, v, h => h
  | .ty _, v, h => h
  | .lst ds, v, h => by
    obtain ⟨a, vs, h1, h2, h3⟩ := h
    exact ⟨a, vs, h1, e.seq h2, DRs.mono e ds vs h3⟩
  | .tup ds, v, h => by
    obtain ⟨a, vs, h1, h2, h3⟩ := h
    exact ⟨a, vs, h1, Same.seqT e h2, DRs.mono e ds vs h3⟩
  | .dk ks ds, v, h => by
    obtain ⟨a, vs, h1, h2, h4, h3⟩ := h
    exact ⟨a, vs, h1, Same.rd e h2, h4, DRs.mono e ds vs h3⟩
  | .dt ks ds, v, h => by
    obtain ⟨a, vs, h1, h2, h4, h3⟩ := h
    exact ⟨a, vs, h1, Same.rd e h2, h4, DRs.mono e ds vs h3⟩
  | .obj cn ns ds, v, h => by
    obtain ⟨a, C, dx, vs, h1, hn, h2, h4, h3⟩ := h
    exact ⟨a, C, dx, vs, h1, hn, e _ _ h2, h4, DRs.mono e ds vs h3⟩
  | .ad _, v, h => h
  | .ptp ds, v, h => by
    obtain ⟨a, o, vs, h1, h2, h4, h3⟩ := h
    exact ⟨a, o, vs, h1, e _ _ h2, h4, DRs.mono e ds vs h3⟩
  | .etp ds, v, h => by
    obtain ⟨a, vs, h1, h2, h3⟩ := h
    exact ⟨a, vs, h1, e _ _ h2, DRs.mono e ds vs h3⟩
  | .exc a x ns ds, v, h => by
    obtain ⟨h1, vs, h2, h4, h3⟩ := h
    exact ⟨h1, vs, e _ _ h2, h4, DRs.mono e ds vs h3⟩
theorem DRs.mono {K : PySem.W.Frag} {H H' : Hp} (e : Same H H') : ∀ (ds : List D) (vs : List V), DRs K H ds vs → DRs K H' ds vs
  | [], vs, h => h
  | d :: ds, vs, h => by
    obtain ⟨v, r, h1, h2, h3⟩ := h
    exact ⟨v, r, h1, DR.mono e d v h2, DRs.mono e ds r h3⟩
end
theorem DRs.length {K : PySem.W.Frag} {H : Hp} : ∀ {ds : List D} {vs : List V}, DRs K H ds vs → ds.length = vs.length
  | [], vs, h => by cases (show vs = [] from h); rfl
  | d :: ds, vs, h => by
    obtain ⟨v, r, rfl, _, h3⟩ := h
    simp [DRs.length h3]
theorem DRs.get {K : PySem.W.Frag} {H : Hp} : ∀ {ds : List D} {vs : List V} {i : Nat} {d : D}, DRs K H ds vs → ds[i]? = some d → ∃ v, vs[i]? = some v ∧ DR K H d v
  | [], vs, i, d, h, e => by simp at e
  | d' :: ds, vs, 0, d, h, e => by
    obtain ⟨v, r, rfl, h2, h3⟩ := h
    simp at e
    subst e
    exact ⟨v, by simp, h2⟩
  | d' :: ds, vs, i + 1, d, h, e => by
    obtain ⟨v, r, rfl, h2, h3⟩ := h
    obtain ⟨w, h4, h5⟩ := DRs.get (i := i) (d := d) h3 (by simpa using e)
    exact ⟨w, by simpa using h4, h5⟩
theorem DRs.get' {K : PySem.W.Frag} {H : Hp} : ∀ {ds : List D} {vs : List V} {i : Nat} {v : V}, DRs K H ds vs → vs[i]? = some v → ∃ d, ds[i]? = some d ∧ DR K H d v
  | [], vs, i, v, h, e => by cases (show vs = [] from h); simp at e
  | d' :: ds, vs, 0, v, h, e => by
    obtain ⟨v', r, rfl, h2, h3⟩ := h
    simp at e
    subst e
    exact ⟨d', by simp, h2⟩
  | d' :: ds, vs, i + 1, v, h, e => by
    obtain ⟨v', r, rfl, h2, h3⟩ := h
    obtain ⟨w, h4, h5⟩ := DRs.get' (i := i) (v := v) h3 (by simpa using e)
    exact ⟨w, by simpa using h4, h5⟩
theorem DRs.app {K : PySem.W.Frag} {H : Hp} : ∀ {ds es : List D} {vs ws : List V}, DRs K H ds vs → DRs K H es ws → DRs K H (ds ++ es) (vs ++ ws)
  | [], es, vs, ws, h, g => by cases (show vs = [] from h); exact g
  | d :: ds, es, vs, ws, h, g => by
    obtain ⟨v, r, rfl, h2, h3⟩ := h
    exact ⟨v, r ++ ws, rfl, h2, DRs.app h3 g⟩
theorem DRs.one {K : PySem.W.Frag} {H : Hp} {d : D} {v : V} (h : DR K H d v) : DRs K H [d] [v] := ⟨v, [], rfl, h, rfl⟩
theorem DRs.set {K : PySem.W.Frag} {H : Hp} {d : D} {v : V} (g : DR K H d v) : ∀ {ds : List D} {vs : List V} (i : Nat), DRs K H ds vs → DRs K H (ds.set i d) (vs.set i v)
  | [], vs, i, h => by cases (show vs = [] from h); exact rfl
  | d' :: ds, vs, 0, h => by
    obtain ⟨v', r, rfl, h2, h3⟩ := h
    exact ⟨v, r, rfl, g, h3⟩
  | d' :: ds, vs, i + 1, h => by
    obtain ⟨v', r, rfl, h2, h3⟩ := h
    exact ⟨v', r.set i v, rfl, h2, DRs.set g i h3⟩
theorem DRs.take {K : PySem.W.Frag} {H : Hp} : ∀ {ds : List D} {vs : List V} (n : Nat), DRs K H ds vs → DRs K H (ds.take n) (vs.take n)
  | ds, vs, 0, h => by simp [DRs]
  | [], vs, n + 1, h => by cases (show vs = [] from h); exact rfl
  | d :: ds, vs, n + 1, h => by
    obtain ⟨v, r, rfl, h2, h3⟩ := h
    exact ⟨v, r.take n, rfl, h2, DRs.take n h3⟩
theorem DRs.drop {K : PySem.W.Frag} {H : Hp} : ∀ {ds : List D} {vs : List V} (n : Nat), DRs K H ds vs → DRs K H (ds.drop n) (vs.drop n)
  | ds, vs, 0, h => by simpa using h
  | [], vs, n + 1, h => by cases (show vs = [] from h); exact rfl
  | d :: ds, vs, n + 1, h => by
    obtain ⟨v, r, rfl, h2, h3⟩ := h
    exact DRs.drop (ds := ds) (vs := r) n h3
theorem DRs.ints {K : PySem.W.Frag} {H : Hp} : ∀ {ns : List Int} {vs : List V}, DRs K H (ns.map D.int) vs → vs = ns.map V.int
  | [], vs, h => h
  | n :: ns, vs, h => by
    obtain ⟨v, r, rfl, h2, h3⟩ := h
    cases (show v = .int n from h2)
    rw [DRs.ints h3]; rfl
theorem DRs.ofInts {K : PySem.W.Frag} {H : Hp} : ∀ (ns : List Int), DRs K H (ns.map D.int) (ns.map V.int)
  | [] => rfl
  | n :: ns => ⟨.int n, ns.map V.int, rfl, rfl, DRs.ofInts ns⟩
theorem DRs.bls {K : PySem.W.Frag} {H : Hp} : ∀ {ns : List Bool} {vs : List V}, DRs K H (ns.map D.bl) vs → vs = ns.map V.bl
  | [], vs, h => h
  | n :: ns, vs, h => by
    obtain ⟨v, r, rfl, h2, h3⟩ := h
    cases (show v = .bl n from h2)
    rw [DRs.bls h3]; rfl
theorem DRs.strs {K : PySem.W.Frag} {H : Hp} : ∀ {ns : List Str} {vs : List V}, DRs K H (ns.map D.str) vs → vs = ns.map V.str
  | [], vs, h => h
  | n :: ns, vs, h => by
    obtain ⟨v, r, rfl, h2, h3⟩ := h
    cases (show v = .str n from h2)
    rw [DRs.strs h3]; rfl
/-- what may be nobody else's -/
def NT : HO → Prop
  | .tup _ => False
  | _ => True
structure JH (B0 B H0 H : Hp) : Prop where
  s0 : Same B0 H0
  sh : Same H0 H
  sB : Same B H
  fr : ∀ a o, B a = some o → NT o → B0 a = none → H0 a = none
theorem JH.refl {H0 H : Hp} (h : Same H0 H) : JH H0 H H0 H := ⟨Same.refl _, h, Same.refl _, fun _ _ _ _ h => h⟩
theorem JH.trans {B0 B H0 H G0 G : Hp} (a : JH B0 B H0 H) (b : JH H0 H G0 G) : JH B0 B G0 G :=
  ⟨a.s0.trans b.s0, b.sh, a.sB.trans b.sB, fun x o h n h' => b.fr x o (a.sB x o h) n (a.fr x o h n h')⟩
/-- a new thing that is shared at once -/
theorem JH.new {H0 H : Hp} {p : Addr} {o : HO} (h : Same H0 H) (n : H p = none) : JH H0 H (upd H0 p o) (upd H p o) := by
  have n0 : H0 p = none := h.free n
  refine ⟨fun b u e => ?_, fun b u e => ?_, fun b u e => ?_, fun a u e _ e' => ?_⟩
  · rw [upd_ne (ne_of_none e n0)]; exact e
  · by_cases hb : b = p
    · subst hb; rw [upd_same] at e ⊢; exact e
    · rw [upd_ne hb] at e ⊢; exact h b u e
  · rw [upd_ne (ne_of_none e n)]; exact e
  · rw [upd_ne (ne_of_none e n)]; exact e'
/-- a new thing that is nobody else's -/
theorem JH.own {H0 H : Hp} {p : Addr} {o : HO} (h : Same H0 H) (n : H p = none) : JH H0 H H0 (upd H p o) := by
  have n0 : H0 p = none := h.free n
  refine ⟨Same.refl _, fun b u e => ?_, fun b u e => ?_, fun a u e _ e' => e'⟩
  · rw [upd_ne (ne_of_none e n0)]; exact h b u e
  · rw [upd_ne (ne_of_none e n)]; exact e
/-- what is nobody else's: a list, a dict -/
inductive OC where
  | lst (ds : List D) | dk (ks : List Key) (ds : List D) | dt (ks : List (List Key)) (ds : List D)
  /-- .. while a loop walks it -/
  | fk (ks : List Key) (ds : List D) | ft (ks : List (List Key)) (ds : List D)
  /-- an instance of a class of the text -/
  | ins (cn : Str) (ns : List Str) (ds : List D)
def OCR (K : PySem.W.Frag) (H0 : Hp) : OC → HO → Prop
  | .lst ds, o => ∃ vs, o = .lst vs ∧ DRs K H0 ds vs
  | .dk ks ds, o => ∃ vs, o = .dK (ks.zip vs) ∧ ks.length = vs.length ∧ DRs K H0 ds vs
  | .dt ks ds, o => ∃ vs, o = .dT (ks.zip vs) ∧ ks.length = vs.length ∧ DRs K H0 ds vs
  | .fk ks ds, o => ∃ vs od, o = .frz od (.dK (ks.zip vs)) ∧ ks.length = vs.length ∧ DRs K H0 ds vs
  | .ft ks ds, o => ∃ vs od, o = .frz od (.dT (ks.zip vs)) ∧ ks.length = vs.length ∧ DRs K H0 ds vs
  | .ins cn ns ds, o => ∃ vs C dx, o = .ins C dx (ns.zip vs) ∧ PySem.W.nsIn K mainGlobals cn = some (some (.ref C)) ∧ ns.length = vs.length ∧ DRs K H0 ds vs
theorem OCR.nt {K : PySem.W.Frag} {H0 : Hp} : ∀ {c : OC} {o : HO}, OCR K H0 c o → NT o
  | .lst _, _, ⟨vs, h1, h2⟩ => by subst h1; trivial
  | .dk _ _, _, ⟨vs, h1, h3, h2⟩ => by subst h1; trivial
  | .dt _ _, _, ⟨vs, h1, h3, h2⟩ => by subst h1; trivial
  | .fk _ _, _, ⟨vs, od, h1, h3, h2⟩ => by subst h1; trivial
  | .ft _ _, _, ⟨vs, od, h1, h3, h2⟩ => by subst h1; trivial
  | .ins _ _ _, _, ⟨vs, C, dx, h1, hn, h3, h2⟩ => by subst h1; trivial
theorem OCR.mono {K : PySem.W.Frag} {H0 H0' : Hp} (e : Same H0 H0') : ∀ {c : OC} {o : HO}, OCR K H0 c o → OCR K H0' c o
  | .lst _, _, ⟨vs, h1, h2⟩ => ⟨vs, h1, DRs.mono e _ _ h2⟩
  | .dk _ _, _, ⟨vs, h1, h3, h2⟩ => ⟨vs, h1, h3, DRs.mono e _ _ h2⟩
  | .dt _ _, _, ⟨vs, h1, h3, h2⟩ => ⟨vs, h1, h3, DRs.mono e _ _ h2⟩
  | .fk _ _, _, ⟨vs, od, h1, h3, h2⟩ => ⟨vs, od, h1, h3, DRs.mono e _ _ h2⟩
  | .ft _ _, _, ⟨vs, od, h1, h3, h2⟩ => ⟨vs, od, h1, h3, DRs.mono e _ _ h2⟩
  | .ins _ _ _, _, ⟨vs, C, dx, h1, hn, h3, h2⟩ => ⟨vs, C, dx, h1, hn, h3, DRs.mono e _ _ h2⟩
def OC.d : OC → D
  | .lst ds => .lst ds
  | .dk ks ds => .dk ks ds
  | .dt ks ds => .dt ks ds
  | .fk ks ds => .dk ks ds
  | .ft ks ds => .dt ks ds
  | .ins cn ns ds => .obj cn ns ds
theorem OCR.dr {K : PySem.W.Frag} {H0 : Hp} {c : OC} {a : Addr} {o : HO} (n : H0 a = none) (h : OCR K H0 c o) : DR K (upd H0 a o) c.d (.ref a) := by
  have s0 : Same H0 (upd H0 a o) := fun b u e => by
    rw [upd_ne (fun z => by subst z; rw [n] at e; cases e)]; exact e
  cases c with
  | lst ds => obtain ⟨vs, rfl, r⟩ := h; exact ⟨a, vs, rfl, SqL.of upd_same, DRs.mono s0 _ _ r⟩
  | dk ks ds => obtain ⟨vs, rfl, l, r⟩ := h; exact ⟨a, vs, rfl, .inl upd_same, l, DRs.mono s0 _ _ r⟩
  | dt ks ds => obtain ⟨vs, rfl, l, r⟩ := h; exact ⟨a, vs, rfl, .inl upd_same, l, DRs.mono s0 _ _ r⟩
  | fk ks ds => obtain ⟨vs, od, rfl, l, r⟩ := h; exact ⟨a, vs, rfl, .inr ⟨od, upd_same⟩, l, DRs.mono s0 _ _ r⟩
  | ft ks ds => obtain ⟨vs, od, rfl, l, r⟩ := h; exact ⟨a, vs, rfl, .inr ⟨od, upd_same⟩, l, DRs.mono s0 _ _ r⟩
  | ins cn ns ds => obtain ⟨vs, C, dx, rfl, hn, l, r⟩ := h; exact ⟨a, C, dx, vs, rfl, hn, upd_same, l, DRs.mono s0 _ _ r⟩
inductive Sl where
  | no | sh (d : D) | ow (c : OC)
  /-- what is at d, and things of its own at places that are told -/
  | ox (cs : List (Addr × OC)) (d : D)
/-- a thing of its own stands at a place -/
structure CellR (K : PySem.W.Frag) (B H0 H : Hp) (a : Addr) (c : OC) : Prop where
  ex : ∃ o, H a = some o ∧ H0 a = none ∧ B a = none ∧ OCR K H0 c o
def SlR (K : PySem.W.Frag) (B H0 H : Hp) : Sl → Option V → Prop
  | .no, _ => True
  | .sh d, ov => ∃ v, ov = some v ∧ DR K H0 d v
  | .ow c, ov => ∃ a o, ov = some (.ref a) ∧ H a = some o ∧ H0 a = none ∧ B a = none ∧ OCR K H0 c o
  | .ox cs d, ov => (∃ v, ov = some v ∧ DR K H0 d v) ∧ (∀ p ∈ cs, CellR K B H0 H p.1 p.2) ∧ (cs.map (·.1)).Nodup
/-- the places of what a slot owns -/
def Owns : Sl → Option V → Addr → Prop
  | .ow _, ov, a => ov = some (.ref a)
  | .ox cs _, _, a => a ∈ cs.map (·.1)
  | _, _, _ => False
abbrev En := List Sl
structure J (K : PySem.W.Frag) (B0 B : Hp) (σ : St) (H0 H : Hp) (ρ : En) : Prop where
  hp : JH B0 B H0 H
  len : σ.length = ρ.length
  sl : ∀ (i : Nat) s ov, ρ[i]? = some s → σ[i]? = some ov → SlR K B H0 H s ov
  dis : ∀ (i j : Nat) s s' ov ov' a, ρ[i]? = some s → ρ[j]? = some s' → σ[i]? = some ov → σ[j]? = some ov' → Owns s ov a → Owns s' ov' a → i = j
section
variable {K : PySem.W.Frag} {B0 B H0 H H0' H' : Hp} {σ σ' : St} {ρ ρ' : En}
theorem J.get (j : J K B0 B σ H0 H ρ) {i : Nat} {s : Sl} (h : ρ[i]? = some s) : ∃ ov, σ[i]? = some ov ∧ SlR K B H0 H s ov := by
  have hi : i < σ.length := by
    have := (List.getElem?_eq_some_iff.mp h).1
    rw [j.len]; exact this
  exact ⟨σ[i], by simp [hi], j.sl i s σ[i] h (by simp [hi])⟩
theorem CellR.grow (g : JH H0 H H0' H') {a : Addr} {c : OC} (h : CellR K B H0 H a c) : CellR K B H0' H' a c := by
  obtain ⟨o, h2, h3, h4, h5⟩ := h
  exact ⟨o, g.sB _ _ h2, g.fr _ _ h2 h5.nt h3, h4, h5.mono g.s0⟩
theorem SlR.grow (g : JH H0 H H0' H') {s : Sl} {ov : Option V} (h : SlR K B H0 H s ov) : SlR K B H0' H' s ov := by
  cases s with
  | no => trivial
  | sh d => obtain ⟨v, h1, h2⟩ := h; exact ⟨v, h1, DR.mono g.s0 _ _ h2⟩
  | ow c => obtain ⟨a, o, h1, h2, h3, h4, h5⟩ := h; exact ⟨a, o, h1, g.sB _ _ h2, g.fr _ _ h2 h5.nt h3, h4, h5.mono g.s0⟩
  | ox cs d => obtain ⟨⟨v, h1, h2⟩, h3, h4⟩ := h; exact ⟨⟨v, h1, DR.mono g.s0 _ _ h2⟩, fun p hp => (h3 p hp).grow g, h4⟩
theorem J.grow (j : J K B0 B σ H0 H ρ) (g : JH H0 H H0' H') : J K B0 B σ H0' H' ρ :=
  ⟨j.hp.trans g, j.len, fun i s ov h1 h2 => (j.sl i s ov h1 h2).grow g, j.dis⟩
theorem J.same (j : J K B0 B σ H0 H ρ) : Same H0 H := j.hp.sh
theorem set_get {α : Type} {l : List α} {i j : Nat} {x y : α} (h : (l.set i x)[j]? = some y) : (j = i ∧ y = x ∧ i < l.length) ∨ (j ≠ i ∧ l[j]? = some y) := by
  by_cases e : i = j
  · subst e
    by_cases hl : i < l.length
    · rw [List.getElem?_set_self hl] at h
      exact .inl ⟨rfl, (Option.some.inj h).symm, hl⟩
    · rw [List.getElem?_eq_none (by simpa using hl)] at h; cases h
  · rw [List.getElem?_set_ne e] at h
    exact .inr ⟨fun z => e z.symm, h⟩
/-- what a slot owns is there, not shared, and new since the base -/
theorem J.own (j : J K B0 B σ H0 H ρ) {i : Nat} {s : Sl} {ov : Option V} {a : Addr} (h : ρ[i]? = some s) (hσ : σ[i]? = some ov) (w : Owns s ov a) : ∃ o, H a = some o ∧ H0 a = none ∧ B a = none := by
  have r := j.sl i s ov h hσ
  cases s with
  | no => cases w
  | sh d => cases w
  | ow c =>
    obtain ⟨b, o, e, h2, h3, h4, _⟩ := r
    cases e.symm.trans (show ov = _ from w)
    exact ⟨o, h2, h3, h4⟩
  | ox cs d =>
    obtain ⟨p, hp, rfl⟩ := List.mem_map.mp (show a ∈ cs.map (·.1) from w)
    obtain ⟨o, h2, h3, h4, _⟩ := (r.2.1 p hp).ex
    exact ⟨o, h2, h3, h4⟩
/-- a slot is changed: the heap stays; what it owns then it owned before -/
theorem J.setTo (j : J K B0 B σ H0 H ρ) {i : Nat} {s : Sl} {ov : Option V} (r : SlR K B H0 H s ov) (n : ∀ a, Owns s ov a → ∀ k s' ov', k ≠ i → ρ[k]? = some s' → σ[k]? = some ov' → ¬ Owns s' ov' a) : J K B0 B (σ.set i ov) H0 H (ρ.set i s) := by
  refine ⟨j.hp, by simp [j.len], fun k s1 ov1 h1 h2 => ?_, fun k l s1 s2 o1 o2 a h1 h2 h3 h4 w1 w2 => ?_⟩
  · rcases set_get h1 with ⟨rfl, rfl, _⟩ | ⟨ne, h1⟩
    · rcases set_get h2 with ⟨_, rfl, _⟩ | ⟨ne, _⟩
      · exact r
      · exact absurd rfl ne
    · rcases set_get h2 with ⟨e, _, _⟩ | ⟨_, h2⟩
      · exact absurd e ne
      · exact j.sl k s1 ov1 h1 h2
  · rcases set_get h1 with ⟨e1, q1, _⟩ | ⟨n1, g1⟩
    · rcases set_get h2 with ⟨e2, _, _⟩ | ⟨n2, g2⟩
      · rw [e1, e2]
      · rcases set_get h3 with ⟨_, q3, _⟩ | ⟨n3, _⟩
        · rw [q1, q3] at w1
          rw [List.getElem?_set_ne (Ne.symm n2)] at h4
          exact absurd w2 (n a w1 l s2 o2 n2 g2 h4)
        · exact absurd e1 n3
    · rcases set_get h2 with ⟨e2, q2, _⟩ | ⟨n2, g2⟩
      · rcases set_get h4 with ⟨_, q4, _⟩ | ⟨n4, _⟩
        · rw [q2, q4] at w2
          rw [List.getElem?_set_ne (Ne.symm n1)] at h3
          exact absurd w1 (n a w2 k s1 o1 n1 g1 h3)
        · exact absurd e2 n4
      · rw [List.getElem?_set_ne (Ne.symm n1)] at h3
        rw [List.getElem?_set_ne (Ne.symm n2)] at h4
        exact j.dis k l s1 s2 o1 o2 a g1 g2 h3 h4 w1 w2
/-- .. and its value too stays -/
theorem J.setSl (j : J K B0 B σ H0 H ρ) {i : Nat} {s : Sl} {ov : Option V} (hσ : σ[i]? = some ov) (r : SlR K B H0 H s ov) (n : ∀ a, Owns s ov a → ∀ k s' ov', k ≠ i → ρ[k]? = some s' → σ[k]? = some ov' → ¬ Owns s' ov' a) : J K B0 B σ H0 H (ρ.set i s) := by
  have q := j.setTo (i := i) r n
  have e : σ.set i ov = σ := by
    refine List.ext_getElem? fun k => ?_
    by_cases hk : i = k
    · subst hk
      rw [hσ, List.getElem?_set_self (List.getElem?_eq_some_iff.mp hσ).1]
    · rw [List.getElem?_set_ne hk]
  rwa [e] at q
theorem J.sub (j : J K B0 B σ H0 H ρ) {i : Nat} {s s0 : Sl} {ov : Option V} (h : ρ[i]? = some s0) (hσ : σ[i]? = some ov) (w : ∀ a, Owns s ov a → Owns s0 ov a) : ∀ a, Owns s ov a → ∀ k s' ov', k ≠ i → ρ[k]? = some s' → σ[k]? = some ov' → ¬ Owns s' ov' a :=
  fun a w1 k s' ov' ne h1 h2 w2 => ne (j.dis k i s' s0 ov' ov a h1 h h2 hσ w2 (w a w1))
theorem Owns.none {s : Sl} {ov : Option V} (h : s = .no ∨ ∃ d, s = .sh d) (a : Addr) : ¬ Owns s ov a := by
  rcases h with rfl | ⟨d, rfl⟩ <;> exact fun w => w
/-- a slot gets a value that is shared -/
theorem J.setSh (j : J K B0 B σ H0 H ρ) {i : Nat} {d : D} {v : V} (h : DR K H0 d v) : J K B0 B (σ.set i (some v)) H0 H (ρ.set i (.sh d)) :=
  j.setTo (s := .sh d) ⟨v, rfl, h⟩ fun a w => w.elim
/-- a slot is forgotten -/
theorem J.drop (j : J K B0 B σ H0 H ρ) (i : Nat) : J K B0 B σ H0 H (ρ.set i .no) := by
  by_cases hi : i < σ.length
  · exact j.setSl (s := .no) (ov := σ[i]) (by simp [hi]) True.intro fun a w => w.elim
  · have e : ρ.set i .no = ρ := List.set_eq_of_length_le (by rw [← j.len]; omega)
    rw [e]; exact j
/-- a slot gets a new thing of its own -/
theorem J.setOwn (j : J K B0 B σ H0 H ρ) {i : Nat} {c : OC} {a : Addr} {o : HO} (h : H a = some o) (h0 : H0 a = none) (hB : B a = none) (n : ∀ (k : Nat) s ov, k ≠ i → ρ[k]? = some s → σ[k]? = some ov → ¬ Owns s ov a) (r : OCR K H0 c o) :
    J K B0 B (σ.set i (some (.ref a))) H0 H (ρ.set i (.ow c)) :=
  j.setTo (s := .ow c) ⟨a, o, rfl, h, h0, hB, r⟩ fun b w k s' ov' ne h1 h2 w2 => by
    cases (show some (V.ref a) = some (.ref b) from w)
    exact n k s' ov' ne h1 h2 w2
theorem upd_keep {H : Hp} {a b : Addr} {o u : HO} (h : H b = some u) (n : b ≠ a) : upd H a o b = some u := by rw [upd_ne n]; exact h
theorem CellR.keep {a b : Addr} {c : OC} {o : HO} (h : CellR K B H0 H b c) (n : b ≠ a) : CellR K B H0 (upd H a o) b c := by
  obtain ⟨u, h1, h2⟩ := h
  exact ⟨u, upd_keep h1 n, h2⟩
/-- what slot i owns at a is changed -/
theorem J.writeAt (j : J K B0 B σ H0 H ρ) {i : Nat} {s s' : Sl} {ov : Option V} {a : Addr} {o : HO} (h : ρ[i]? = some s) (hσ : σ[i]? = some ov) (w : Owns s ov a) (ws : ∀ b, Owns s' ov b ↔ Owns s ov b) (r : SlR K B H0 (upd H a o) s' ov) : J K B0 B σ H0 (upd H a o) (ρ.set i s') := by
  obtain ⟨o', h1, h2, h3⟩ := j.own h hσ w
  have ne : ∀ b u, H0 b = some u → b ≠ a := fun b u e z => by subst z; rw [h2] at e; cases e
  have neB : ∀ b u, B b = some u → b ≠ a := fun b u e z => by subst z; rw [h3] at e; cases e
  refine ⟨⟨j.hp.s0, fun b u e => upd_keep (j.hp.sh b u e) (ne b u e), fun b u e => upd_keep (j.hp.sB b u e) (neB b u e), j.hp.fr⟩, by simp [j.len], fun k s1 ov1 g1 g2 => ?_, fun k l s1 s2 o1 o2 b g1 g2 g3 g4 w1 w2 => ?_⟩
  · rcases set_get g1 with ⟨rfl, rfl, _⟩ | ⟨nk, g1⟩
    · rw [hσ] at g2; cases g2
      exact r
    · have q := j.sl k s1 ov1 g1 g2
      have nb : ∀ b, Owns s1 ov1 b → b ≠ a := fun b w1 z => by
        subst z
        exact nk (j.dis k i s1 s ov1 ov b g1 h g2 hσ w1 w)
      cases s1 with
      | no => trivial
      | sh d => exact q
      | ow c2 =>
        obtain ⟨b, ob, f1, f2, f3, f4, f5⟩ := q
        exact ⟨b, ob, f1, upd_keep f2 (nb b f1), f3, f4, f5⟩
      | ox cs d =>
        obtain ⟨q1, q2, q3⟩ := q
        exact ⟨q1, fun p hp => (q2 p hp).keep (nb p.1 (List.mem_map.mpr ⟨p, hp, rfl⟩)), q3⟩
  · have p : ∀ {m : Nat} {s3 : Sl} {o3 : Option V}, (ρ.set i s')[m]? = some s3 → σ[m]? = some o3 → Owns s3 o3 b → ∃ s4, ρ[m]? = some s4 ∧ Owns s4 o3 b := fun {m s3 o3} g gσ w3 => by
      rcases set_get g with ⟨rfl, rfl, _⟩ | ⟨_, g⟩
      · rw [hσ] at gσ; cases gσ
        exact ⟨s, h, (ws b).mp w3⟩
      · exact ⟨s3, g, w3⟩
    obtain ⟨s5, f1, f2⟩ := p g1 g3 w1
    obtain ⟨s6, f3, f4⟩ := p g2 g4 w2
    exact j.dis k l s5 s6 o1 o2 b f1 f3 g3 g4 f2 f4
/-- what a slot owns is changed -/
theorem J.write (j : J K B0 B σ H0 H ρ) {i : Nat} {c c' : OC} {a : Addr} {o : HO} (h : ρ[i]? = some (.ow c)) (hσ : σ[i]? = some (some (.ref a))) (r : OCR K H0 c' o) : J K B0 B σ H0 (upd H a o) (ρ.set i (.ow c')) := by
  obtain ⟨o', h1, h2, h3⟩ := j.own h hσ (show Owns (.ow c) (some (.ref a)) a from rfl)
  exact j.writeAt h hσ rfl (fun b => Iff.rfl) ⟨a, o, rfl, upd_same, h2, h3, r⟩
/-- what a slot owns at a place is given to all -/
theorem J.shareAt (j : J K B0 B σ H0 H ρ) {i : Nat} {s : Sl} {ov : Option V} {a : Addr} {c : OC} {o : HO} (h : ρ[i]? = some s) (hσ : σ[i]? = some ov) (w : Owns s ov a) (h1 : H a = some o) (h4 : OCR K H0 c o) {s' : Sl}
    (ws : ∀ b, Owns s' ov b → Owns s ov b ∧ b ≠ a) (r : DR K (upd H0 a o) c.d (.ref a) → SlR K B (upd H0 a o) H s' ov) : J K B0 B σ (upd H0 a o) H (ρ.set i s') ∧ Same H0 (upd H0 a o) := by
  obtain ⟨o', h1', h2, h3⟩ := j.own h hσ w
  have ne : ∀ b u, H0 b = some u → b ≠ a := fun b u e z => by subst z; rw [h2] at e; cases e
  have s0 : Same H0 (upd H0 a o) := fun b u e => upd_keep e (ne b u e)
  have dr : DR K (upd H0 a o) c.d (.ref a) := by
    exact OCR.dr h2 h4
  refine ⟨⟨⟨j.hp.s0.trans s0, fun b u e => ?_, j.hp.sB, fun b u e nt e' => ?_⟩, by simp [j.len], fun k s1 ov1 g1 g2 => ?_, fun k l s1 s2 o1 o2 b g1 g2 g3 g4 w1 w2 => ?_⟩, s0⟩
  · by_cases hb : b = a
    · subst hb; rw [upd_same] at e; cases e; exact h1
    · rw [upd_ne hb] at e; exact j.hp.sh b u e
  · rw [upd_ne (fun z => by subst z; rw [h3] at e; cases e)]; exact j.hp.fr b u e nt e'
  · rcases set_get g1 with ⟨rfl, rfl, _⟩ | ⟨nk, g1⟩
    · rw [hσ] at g2; cases g2
      exact r dr
    · have q := j.sl k s1 ov1 g1 g2
      have nb : ∀ b, Owns s1 ov1 b → b ≠ a := fun b w1 z => by
        subst z
        exact nk (j.dis k i s1 s ov1 ov b g1 h g2 hσ w1 w)
      cases s1 with
      | no => trivial
      | sh d => obtain ⟨v, f1, f2⟩ := q; exact ⟨v, f1, DR.mono s0 _ _ f2⟩
      | ow c2 =>
        obtain ⟨b, ob, f1, f2, f3, f4, f5⟩ := q
        exact ⟨b, ob, f1, f2, by rw [upd_ne (nb b f1)]; exact f3, f4, f5.mono s0⟩
      | ox cs d =>
        obtain ⟨⟨v, f1, f2⟩, q2, q3⟩ := q
        refine ⟨⟨v, f1, DR.mono s0 _ _ f2⟩, fun p hp => ?_, q3⟩
        obtain ⟨ob, f2, f3, f4, f5⟩ := (q2 p hp).ex
        exact ⟨ob, f2, by rw [upd_ne (nb p.1 (List.mem_map.mpr ⟨p, hp, rfl⟩))]; exact f3, f4, f5.mono s0⟩
  · have p : ∀ {m : Nat} {s3 : Sl} {o3 : Option V}, (ρ.set i s')[m]? = some s3 → σ[m]? = some o3 → Owns s3 o3 b → ∃ s4, ρ[m]? = some s4 ∧ Owns s4 o3 b := fun {m s3 o3} g gσ w3 => by
      rcases set_get g with ⟨rfl, rfl, _⟩ | ⟨_, g⟩
      · rw [hσ] at gσ; cases gσ
        exact ⟨s, h, (ws b w3).1⟩
      · exact ⟨s3, g, w3⟩
    obtain ⟨s5, f1, f2⟩ := p g1 g3 w1
    obtain ⟨s6, f3, f4⟩ := p g2 g4 w2
    exact j.dis k l s5 s6 o1 o2 b f1 f3 g3 g4 f2 f4
/-- what a slot owns is given to all -/
theorem J.share (j : J K B0 B σ H0 H ρ) {i : Nat} {c : OC} (h : ρ[i]? = some (.ow c)) : ∃ H0', J K B0 B σ H0' H (ρ.set i (.sh c.d)) ∧ Same H0 H0' := by
  obtain ⟨ov, e1, a, o, e2, h1, h2, h3, h4⟩ := j.get h
  subst e2
  exact ⟨_, j.shareAt (s' := .sh c.d) h e1 rfl h1 h4 (fun b w => w.elim) fun r => ⟨_, rfl, r⟩⟩
/-- the shared part as it is now for a new base -/
theorem J.rebase (j : J K B0 B σ H0 H ρ) : J K H0 B σ H0 H ρ := ⟨⟨Same.refl _, j.hp.sh, j.hp.sB, fun _ _ _ _ h => h⟩, j.len, j.sl, j.dis⟩
theorem J.unbase (j : J K B0 B σ H0 H ρ) (j' : J K H0 B σ' H0' H' ρ') : J K B0 B σ' H0' H' ρ' :=
  ⟨⟨j.hp.s0.trans j'.hp.s0, j'.hp.sh, j'.hp.sB, fun a o h n h' => j'.hp.fr a o h n (j.hp.fr a o h n h')⟩, j'.len, j'.sl, j'.dis⟩
theorem CellR.new {a : Addr} {c : OC} {o : HO} (h : H a = some o) (h0 : H0 a = none) (hB : B a = none) (r : OCR K H0 c o) : CellR K B H0 H a c := ⟨o, h, h0, hB, r⟩
/-- the place of what a slot owns is told -/
theorem J.tell (j : J K B0 B σ H0 H ρ) {i : Nat} {c : OC} (h : ρ[i]? = some (.ow c)) : ∃ a, J K B0 B σ H0 H (ρ.set i (.ox [(a, c)] (.ad a))) := by
  obtain ⟨ov, e1, a, o, rfl, h1, h2, h3, h4⟩ := j.get h
  exact ⟨a, j.setSl (s := .ox [(a, c)] (.ad a)) e1 ⟨⟨_, rfl, rfl⟩, fun p hp => by rw [List.mem_singleton] at hp; subst hp; exact .new h1 h2 h3 h4, by simp⟩ (j.sub h e1 fun b w => by
    have e : b = a := by simpa [Owns] using w
    subst e; rfl)⟩
theorem J.cell (j : J K B0 B σ H0 H ρ) {i : Nat} {cs : List (Addr × OC)} {d : D} (h : ρ[i]? = some (.ox cs d)) {a : Addr} {c : OC} (m : (a, c) ∈ cs) : ∃ o, H a = some o ∧ H0 a = none ∧ B a = none ∧ OCR K H0 c o := by
  obtain ⟨ov, e1, h1, h2, h3⟩ := j.get h
  exact (h2 _ m).ex
/-- one of the places anew -/
def putC (cs : List (Addr × OC)) (a : Addr) (c : OC) : List (Addr × OC) := cs.map fun p => if p.1 = a then (a, c) else p
theorem putC_fst (cs : List (Addr × OC)) (a : Addr) (c : OC) : (putC cs a c).map (·.1) = cs.map (·.1) := by
  unfold putC
  rw [List.map_map]
  refine List.map_congr_left fun p _ => ?_
  show (if p.1 = a then (a, c) else p).1 = p.1
  split
  · rename_i h; exact h.symm
  · rfl
theorem J.put (j : J K B0 B σ H0 H ρ) {i : Nat} {cs : List (Addr × OC)} {d : D} (h : ρ[i]? = some (.ox cs d)) {a : Addr} {c c' : OC} {o : HO} (m : (a, c) ∈ cs) (r : OCR K H0 c' o) : J K B0 B σ H0 (upd H a o) (ρ.set i (.ox (putC cs a c') d)) := by
  obtain ⟨ov, e1, h1, h2, h3⟩ := j.get h
  obtain ⟨o', f1, f2, f3, f4⟩ := j.cell h m
  refine j.writeAt h e1 (List.mem_map.mpr ⟨_, m, rfl⟩) (fun b => by simp only [Owns, putC_fst]) ⟨h1, fun p hp => ?_, by rw [putC_fst]; exact h3⟩
  obtain ⟨q, hq, e⟩ := List.mem_map.mp hp
  by_cases hqa : q.1 = a
  · rw [if_pos hqa] at e
    subst e
    exact .new upd_same f2 f3 r
  · rw [if_neg hqa] at e
    subst e
    exact (h2 q hq).keep hqa
/-- a new thing more -/
theorem J.more (j : J K B0 B σ H0 H ρ) (g : JH H0 H H0' H') {i : Nat} {cs : List (Addr × OC)} {d : D} {a : Addr} {c : OC} {o : HO} (h : ρ[i]? = some (.ox cs d)) (h1 : H' a = some o) (h0 : H0' a = none) (n : H a = none) (r : OCR K H0' c o) : J K B0 B σ H0' H' (ρ.set i (.ox (cs ++ [(a, c)]) d)) := by
  obtain ⟨ov, e1, f1, f2, f3⟩ := (j.grow g).get h
  have nin : ∀ k s' ov', ρ[k]? = some s' → σ[k]? = some ov' → ¬ Owns s' ov' a := fun k s' ov' h1 h2 w => by
    obtain ⟨o, e, _⟩ := j.own h1 h2 w
    rw [n] at e; cases e
  have nm : a ∉ cs.map (·.1) := fun w => nin i _ ov h e1 w
  refine (j.grow g).setSl (s := .ox (cs ++ [(a, c)]) d) e1 ⟨f1, fun p hp => ?_, ?_⟩ fun b w k s' ov' ne g1 g2 w2 => ?_
  · rcases List.mem_append.mp hp with hp | hp
    · exact f2 p hp
    · rw [List.mem_singleton] at hp; subst hp
      exact .new h1 h0 (j.hp.sB.free n) r
  · rw [List.map_append, List.nodup_append]
    refine ⟨f3, by simp, fun x hx y hy => ?_⟩
    have : y = a := by simpa using hy
    subst this
    exact fun e => nm (e ▸ hx)
  · have w' : b ∈ cs.map (·.1) ∨ b = a := by
      have : b ∈ (cs ++ [(a, c)]).map (·.1) := w
      rw [List.map_append, List.mem_append] at this
      simpa using this
    rcases w' with w' | rfl
    · exact ne (j.dis k i s' _ ov' ov b g1 h g2 e1 w2 w')
    · exact nin k s' ov' g1 g2 w2
/-- all that a slot owns is given to all -/
theorem shareAll {K : PySem.W.Frag} {B0 B H : Hp} {σ : St} {i : Nat} {d : D} : ∀ {cs : List (Addr × OC)} {H0 : Hp} {ρ : En}, J K B0 B σ H0 H ρ → ρ[i]? = some (.ox cs d) → ∃ H0', J K B0 B σ H0' H (ρ.set i (.sh d)) ∧ Same H0 H0' ∧ ∀ p ∈ cs, DR K H0' p.2.d (.ref p.1)
  | [], H0, ρ, j, h => by
    obtain ⟨ov, e1, h1, h2, h3⟩ := j.get h
    exact ⟨H0, j.setSl (s := .sh d) e1 h1 (fun a w => w.elim), Same.refl _, fun p hp => by simp at hp⟩
  | (a, c) :: cs, H0, ρ, j, h => by
    obtain ⟨ov, e1, ⟨v, h1, h1'⟩, h2, h3⟩ := j.get h
    obtain ⟨o, f1, f2, f3, f4⟩ := j.cell h (List.mem_cons_self ..)
    have nd := List.nodup_cons.mp h3
    obtain ⟨j1, s1⟩ := j.shareAt (s' := .ox cs d) (c := c) h e1 (List.mem_cons_self ..) f1 f4 (fun b w => ⟨List.mem_cons_of_mem _ w, fun z => nd.1 (z ▸ w)⟩) fun r => ⟨⟨v, h1, DR.mono (fun b u e => upd_keep e (fun z => by subst z; rw [f2] at e; cases e)) _ _ h1'⟩, fun p hp => by
      obtain ⟨ob, g2, g3, g4, g5⟩ := (h2 p (List.mem_cons_of_mem _ hp)).ex
      exact ⟨ob, g2, by rw [upd_ne (fun z => nd.1 (by rw [← z]; exact List.mem_map.mpr ⟨p, hp, rfl⟩))]; exact g3, g4, g5.mono (fun b u e => upd_keep e (fun z => by subst z; rw [f2] at e; cases e))⟩, nd.2⟩
    obtain ⟨H1, j3, s3, r3⟩ := shareAll (i := i) (d := d) (cs := cs) j1 (by rw [List.getElem?_set_self (List.getElem?_eq_some_iff.mp h).1])
    rw [List.set_set] at j3
    refine ⟨H1, j3, s1.trans s3, fun p hp => ?_⟩
    rcases List.mem_cons.mp hp with rfl | hp
    · exact DR.mono s3 _ _ (OCR.dr f2 f4)
    · exact r3 p hp
end
end DL
namespace DL
open PySem PySem.Spec L2
def RE (X : Cx) (e : Expr) : TE := fun σ H Q => ∃ t, PE X e t ∧ t σ H Q
def RT (X : Cx) (e : Expr) : TT := fun σ H Q => ∃ t, PT X e t ∧ t σ H Q
def RW (X : Cx) (e : Expr) : TT := fun σ H Q => ∃ t, PW X e t ∧ t σ H Q
def RA (X : Cx) (es : List Expr) : TA := fun σ H Q => ∃ t, PA X es t ∧ t σ H Q
def RS (X : Cx) (st : Stmt) : TS := fun D σ H => ∃ t, PS X st t ∧ t D σ H
def RSs (X : Cx) (sts : List Stmt) : TS := fun D σ H => ∃ t, PSs X sts t ∧ t D σ H
def RI (X : Cx) (tg iter : Expr) : TI := fun σ H R => ∃ t, PI X tg iter t ∧ t σ H R
def RG (X : Cx) (tg : Expr) : TG := fun v σ H Q => ∃ t, PG X tg t ∧ t v σ H Q
def RGs (X : Cx) (tg : List Expr) : TGs := fun vs σ H Q => ∃ t, PGs X tg t ∧ t vs σ H Q
section
variable {X : Cx}
theorem pe_star {e} : PE X e (RE X e) := ⟨fun pins s σ H Q I ⟨_, h, q⟩ => h.run pins s σ H Q I q⟩
theorem pt_star {e} : PT X e (RT X e) := ⟨fun pins s σ H Q I ⟨_, h, q⟩ => h.run pins s σ H Q I q⟩
theorem pw_star {e} : PW X e (RW X e) := ⟨fun wh pins s σ H Q I ⟨_, h, q⟩ => h.run wh pins s σ H Q I q⟩
theorem pa_star {es} : PA X es (RA X es) := ⟨fun pos pins s σ H Q I ⟨_, h, q⟩ => h.run pos pins s σ H Q I q⟩
theorem ps_star {st} : PS X st (RS X st) := ⟨fun pins s σ H D I ⟨_, h, q⟩ => h.run pins s σ H D I q⟩
theorem pss_star {st} : PSs X st (RSs X st) := ⟨fun pins s σ H D I ⟨_, h, q⟩ => h.run pins s σ H D I q⟩
theorem pi_star {tg it} : PI X tg it (RI X tg it) := ⟨fun pins s σ H R I ⟨_, h, q⟩ => h.run pins s σ H R I q⟩
theorem pg_star {tg} : PG X tg (RG X tg) := ⟨fun pins s σ H v u Q I r ⟨_, h, q⟩ => h.run pins s σ H v u Q I r q⟩
theorem pgs_star {tg} : PGs X tg (RGs X tg) := ⟨fun pins s σ H v u Q I r ⟨_, h, q⟩ => h.run pins s σ H v u Q I r q⟩
theorem RE.of {e t σ H Q} (h : PE X e t) (q : t σ H Q) : RE X e σ H Q := ⟨t, h, q⟩
theorem RT.of {e t σ H Q} (h : PT X e t) (q : t σ H Q) : RT X e σ H Q := ⟨t, h, q⟩
theorem RA.of {e t σ H Q} (h : PA X e t) (q : t σ H Q) : RA X e σ H Q := ⟨t, h, q⟩
end
def ED (X : Cx) (ρ : En) (e : Expr) (d : D) : Prop := ∀ B0 B σ H0 H (Q : VK), J X.K B0 B σ H0 H ρ → (∀ v H0' H', JH H0 H H0' H' → DR X.K H0' d v → Q v H') → RE X e σ H Q
/-- .. that is new and nobody else's -/
def EO (X : Cx) (ρ : En) (e : Expr) (c : OC) : Prop := ∀ B0 B σ H0 H (Q : VK), J X.K B0 B σ H0 H ρ → (∀ a o H0' H', JH H0 H H0' H' → H' a = some o → H0' a = none → H a = none → OCR X.K H0' c o → Q (.ref a) H') → RE X e σ H Q
def TD (X : Cx) (ρ : En) (e : Expr) (b : Bool) : Prop := ∀ B0 B σ H0 H (Q : Bool → Hp → Prop), J X.K B0 B σ H0 H ρ → (∀ H0' H', JH H0 H H0' H' → Q b H') → RT X e σ H Q
def TW (X : Cx) (ρ : En) (e : Expr) (b : Bool) : Prop := ∀ B0 B σ H0 H (Q : Bool → Hp → Prop), J X.K B0 B σ H0 H ρ → (∀ H0' H', JH H0 H H0' H' → Q b H') → RW X e σ H Q
def AD (X : Cx) (ρ : En) (es : List Expr) (ds : List D) : Prop := ∀ B0 B σ H0 H (Q : List V → Hp → Prop), J X.K B0 B σ H0 H ρ → (∀ vs H0' H', JH H0 H H0' H' → DRs X.K H0' ds vs → Q vs H') → RA X es σ H Q
/-- by values: a binary operation, a call of a built-in -/
def O2 (K : PySem.W.Frag) (r : R2) (d e f : D) : Prop := ∀ H0 H x y (Q : VK), Same H0 H → DR K H0 d x → DR K H0 e y → (∀ v H0' H', JH H0 H H0' H' → DR K H0' f v → Q v H') → r x y H Q
structure B2 (X : Cx) (op : Operator) (d e f : D) : Prop where
  ex : ∃ r, OpR X (binaryOp op) r ∧ O2 X.K r d e f
structure C2 (X : Cx) (op : CmpOp) (d e f : D) : Prop where
  ex : ∃ r, OpR X (compareOp op) r ∧ O2 X.K r d e f
structure BC (X : Cx) (f : Value) (ds : List D) (d : D) : Prop where
  ex : ∃ r, CallR X f r ∧ ∀ H0 H vs (Q : VK), Same H0 H → DRs X.K H0 ds vs → (∀ v H0' H', JH H0 H H0' H' → DR X.K H0' d v → Q v H') → r vs H Q
structure BO (X : Cx) (f : Value) (ds : List D) (c : OC) : Prop where
  ex : ∃ r, CallR X f r ∧ ∀ H0 H vs (Q : VK), Same H0 H → DRs X.K H0 ds vs → (∀ a o H0' H', JH H0 H H0' H' → H' a = some o → H0' a = none → H a = none → OCR X.K H0' c o → Q (.ref a) H') → r vs H Q
section
variable {X : Cx} {ρ : En} {e a b c : Expr} {d d1 d2 d3 : D} {pos : Pos}
theorem ED.eq {d' : D} (h : ED X ρ e d) (q : d = d') : ED X ρ e d' := q ▸ h
theorem TD.eq {k k' : Bool} (h : TD X ρ e k) (q : k = k') : TD X ρ e k' := q ▸ h
theorem EO.eq {c c' : OC} (h : EO X ρ e c) (q : c = c') : EO X ρ e c' := q ▸ h
theorem DR.own {K : PySem.W.Frag} {H0 : Hp} {c : OC} {a : Addr} {o : HO} (n : H0 a = none) (h : OCR K H0 c o) : DR K (upd H0 a o) c.d (.ref a) := OCR.dr n h
/-- .. and is given to all at once -/
theorem JH.give {H0 H H0' H' : Hp} {a : Addr} {o : HO} (g : JH H0 H H0' H') (h : H' a = some o) (h0 : H0' a = none) (n : H a = none) : JH H0 H (upd H0' a o) H' := by
  refine ⟨fun b u e => upd_keep (g.s0 b u e) (ne_of_none (g.s0 b u e) h0), fun b u e => ?_, g.sB, fun b u e nt e' => ?_⟩
  · by_cases hb : b = a
    · subst hb; rw [upd_same] at e; cases e; exact h
    · rw [upd_ne hb] at e; exact g.sh b u e
  · rw [upd_ne (ne_of_none e n)]; exact g.fr b u e nt e'
theorem ed_own {c : OC} (h : EO X ρ e c) : ED X ρ e c.d := fun B0 B σ H0 H Q j k =>
  h B0 B σ H0 H Q j fun a o H0' H' g h1 h2 h3 r => k _ (upd H0' a o) H' (g.give h1 h2 h3) (DR.own h2 r)
theorem ed_lst {ds : List D} (h : EO X ρ e (.lst ds)) : ED X ρ e (.lst ds) := ed_own h
theorem ed_var (i : Nat) {x : Str} (hρ : ρ[i]? = some (.sh d)) (hN : X.N[i]? = some x := by rfl) (hv : Vis X.env.scope x := by first | exact Or.inl rfl | exact Or.inr (Or.inl rfl) | exact Or.inr (Or.inr rfl)) (hd : (x == ("__debug__" : Str)) = false := by decide)
    (hcd : (x == ("__classdict__" : Str)) = false := by decide) : ED X ρ (.Name x pos) d := fun B0 B σ H0 H Q j k => by
  obtain ⟨ov, h1, v, rfl, h2⟩ := j.get hρ
  exact RE.of (pe_var hN hv hd hcd) ⟨v, h1, k v H0 H (JH.refl j.same) h2⟩
theorem ed_int {i j} : ED X ρ (.Constant (.int i) j pos) (.int i) := fun B0 B σ H0 H Q j k => RE.of pe_int (k _ H0 H (JH.refl j.same) rfl)
theorem ed_bl {i j} : ED X ρ (.Constant (.bool i) j pos) (.bl i) := fun B0 B σ H0 H Q j k => RE.of pe_bl (k _ H0 H (JH.refl j.same) rfl)
theorem ed_str {i j} : ED X ρ (.Constant (.str i) j pos) (.str i) := fun B0 B σ H0 H Q j k => RE.of pe_str (k _ H0 H (JH.refl j.same) rfl)
theorem ed_bin {op : Operator} (ha : ED X ρ a d1) (hb : ED X ρ b d2) (ho : B2 X op d1 d2 d) : ED X ρ (.BinOp a op b pos) d := fun B0 B σ H0 H Q j k => by
  obtain ⟨r, h1, h2⟩ := ho
  refine RE.of (pe_op h1 pe_star pe_star) (ha B0 B σ H0 H _ j fun x G0 G g1 r1 => ?_)
  refine hb B0 B σ G0 G _ (j.grow g1) fun y L0 L g2 r2 => ?_
  exact h2 L0 L x y Q g2.sh (DR.mono g2.s0 _ _ r1) r2 fun v M0 M g3 r3 => k v M0 M ((g1.trans g2).trans g3) r3
theorem ed_cmp {op : CmpOp} (ha : ED X ρ a d1) (hb : ED X ρ b d2) (ho : C2 X op d1 d2 d) (hm : behindInMarks op b = false := by first | exact nomark _ | rfl) : ED X ρ (.Compare a [op] [b] pos) d := fun B0 B σ H0 H Q j k => by
  obtain ⟨r, h1, h2⟩ := ho
  refine RE.of (pe_cmpR h1 pe_star pe_star hm) (ha B0 B σ H0 H _ j fun x G0 G g1 r1 => ?_)
  refine hb B0 B σ G0 G _ (j.grow g1) fun y L0 L g2 r2 => ?_
  exact h2 L0 L x y Q g2.sh (DR.mono g2.s0 _ _ r1) r2 fun v M0 M g3 r3 => k v M0 M ((g1.trans g2).trans g3) r3
theorem td_cmp {op : CmpOp} {k : Bool} (ha : ED X ρ a d1) (hb : ED X ρ b d2) (ho : C2 X op d1 d2 (.bl k)) (hm : behindInMarks op b = false := by first | exact nomark _ | rfl) : TD X ρ (.Compare a [op] [b] pos) k := fun B0 B σ H0 H Q j kk => by
  obtain ⟨r, h1, h2⟩ := ho
  refine RT.of (pt_cmpR h1 pe_star pe_star hm) (ha B0 B σ H0 H _ j fun x G0 G g1 r1 => ?_)
  refine hb B0 B σ G0 G _ (j.grow g1) fun y L0 L g2 r2 => ?_
  refine h2 L0 L x y _ g2.sh (DR.mono g2.s0 _ _ r1) r2 fun v M0 M g3 r3 => ⟨k, r3, kk M0 M ((g1.trans g2).trans g3)⟩
theorem ed_chain {op op' : CmpOp} {k k' : Bool} (ha : ED X ρ a d1) (hb : ED X ρ b d2) (hc : ED X ρ c d3) (ho : C2 X op d1 d2 (.bl k)) (ho' : C2 X op' d2 d3 (.bl k')) (hm : lastMarks [op, op'] [b, c] = false := by with_unfolding_all rfl) :
    ED X ρ (.Compare a [op, op'] [b, c] pos) (.bl (k && k')) := fun B0 B σ H0 H Q j kk => by
  obtain ⟨r, h1, h2⟩ := ho
  obtain ⟨r', h1', h2'⟩ := ho'
  refine RE.of (pe_chain h1 h1' pe_star pe_star pe_star hm) (ha B0 B σ H0 H _ j fun x G0 G g1 r1 => ?_)
  refine hb B0 B σ G0 G _ (j.grow g1) fun y L0 L g2 r2 => ?_
  refine h2 L0 L x y _ g2.sh (DR.mono g2.s0 _ _ r1) r2 fun v M0 M g3 r3 => ⟨k, r3, ?_⟩
  cases k with
  | false => exact iteF (kk _ M0 M ((g1.trans g2).trans g3) rfl)
  | true =>
    refine iteT (hc B0 B σ M0 M _ (((j.grow g1).grow g2).grow g3) fun z N0 N g4 r4 => ?_)
    exact h2' N0 N y z Q g4.sh (DR.mono (g3.trans g4).s0 _ _ r2) r4 fun v P0 P g5 r5 => kk v P0 P (((g1.trans g2).trans (g3.trans g4)).trans g5) (by simpa using r5)
theorem td_chain {op op' : CmpOp} {k k' : Bool} (ha : ED X ρ a d1) (hb : ED X ρ b d2) (hc : ED X ρ c d3) (ho : C2 X op d1 d2 (.bl k)) (ho' : C2 X op' d2 d3 (.bl k')) (hm : lastMarks [op, op'] [b, c] = false := by with_unfolding_all rfl) :
    TD X ρ (.Compare a [op, op'] [b, c] pos) (k && k') := fun B0 B σ H0 H Q j kk => by
  obtain ⟨r, h1, h2⟩ := ho
  obtain ⟨r', h1', h2'⟩ := ho'
  refine RT.of (pt_chain h1 h1' pe_star pe_star pe_star hm) (ha B0 B σ H0 H _ j fun x G0 G g1 r1 => ?_)
  refine hb B0 B σ G0 G _ (j.grow g1) fun y L0 L g2 r2 => ?_
  refine h2 L0 L x y _ g2.sh (DR.mono g2.s0 _ _ r1) r2 fun v M0 M g3 r3 => ⟨k, r3, ?_⟩
  cases k with
  | false => exact iteF ⟨_, rfl, kk M0 M ((g1.trans g2).trans g3)⟩
  | true =>
    refine iteT (hc B0 B σ M0 M _ (((j.grow g1).grow g2).grow g3) fun z N0 N g4 r4 => ?_)
    exact h2' N0 N y z _ g4.sh (DR.mono (g3.trans g4).s0 _ _ r2) r4 fun v P0 P g5 r5 => ⟨k', r5, kk P0 P (((g1.trans g2).trans (g3.trans g4)).trans g5)⟩
theorem td_not {k : Bool} (h : TD X ρ a k) : TD X ρ (.UnaryOp .Not a pos) (!k) := fun B0 B σ H0 H Q j kk =>
  RT.of (pt_not pt_star) (h B0 B σ H0 H _ j fun H0' H' g => kk H0' H' g)
theorem tw_and1 {k : Bool} (h : TD X ρ a k) : TW X ρ (.BoolOp .And [a] pos) k := fun B0 B σ H0 H Q j kk => ⟨_, pw_and1 pt_star, h B0 B σ H0 H _ j kk⟩
theorem tw_or1 {k : Bool} (h : TD X ρ a k) : TW X ρ (.BoolOp .Or [a] pos) k := fun B0 B σ H0 H Q j kk => ⟨_, pw_or1 pt_star, h B0 B σ H0 H _ j kk⟩
theorem tw_and {k k' : Bool} {rest : List Expr} (h : TD X ρ a k) (h' : k = true → TW X ρ (.BoolOp .And (b :: rest) pos) k') : TW X ρ (.BoolOp .And (a :: b :: rest) pos) (k && k') := fun B0 B σ H0 H Q j kk => by
  refine ⟨_, pw_and pt_star pw_star, h B0 B σ H0 H _ j fun H0' H' g => ?_⟩
  cases k with
  | false => exact iteF (kk H0' H' g)
  | true => exact iteT (h' rfl B0 B σ H0' H' _ (j.grow g) fun G0 G g2 => kk G0 G (g.trans g2))
theorem tw_or {k k' : Bool} {rest : List Expr} (h : TD X ρ a k) (h' : k = false → TW X ρ (.BoolOp .Or (b :: rest) pos) k') : TW X ρ (.BoolOp .Or (a :: b :: rest) pos) (k || k') := fun B0 B σ H0 H Q j kk => by
  refine ⟨_, pw_or pt_star pw_star, h B0 B σ H0 H _ j fun H0' H' g => ?_⟩
  cases k with
  | true => exact iteT (kk H0' H' g)
  | false => exact iteF (h' rfl B0 B σ H0' H' _ (j.grow g) fun G0 G g2 => kk G0 G (g.trans g2))
theorem td_tw {k : Bool} (h : TW X ρ e k) : TD X ρ e k := fun B0 B σ H0 H Q j kk => by
  obtain ⟨t, h1, h2⟩ := h B0 B σ H0 H Q j kk
  exact ⟨t, h1.pt, h2⟩
/-- and, or as values -/
theorem ed_one {op} (h : ED X ρ a d) : ED X ρ (.BoolOp op [a] pos) d := fun B0 B σ H0 H Q j kk => RE.of (pe_one pe_star) (h B0 B σ H0 H _ j kk)
theorem ed_and {k k' : Bool} {rest : List Expr} (h : ED X ρ a (.bl k)) (h' : k = true → ED X ρ (.BoolOp .And (b :: rest) pos) (.bl k')) : ED X ρ (.BoolOp .And (a :: b :: rest) pos) (.bl (k && k')) := fun B0 B σ H0 H Q j kk => by
  refine RE.of (pe_and pe_star pe_star) (h B0 B σ H0 H _ j fun v H0' H' g r => ⟨k, r, ?_⟩)
  cases k with
  | false => exact iteF (kk _ H0' H' g rfl)
  | true => exact iteT (h' rfl B0 B σ H0' H' _ (j.grow g) fun v G0 G g2 r2 => kk v G0 G (g.trans g2) r2)
theorem ed_or {k k' : Bool} {rest : List Expr} (h : ED X ρ a (.bl k)) (h' : k = false → ED X ρ (.BoolOp .Or (b :: rest) pos) (.bl k')) : ED X ρ (.BoolOp .Or (a :: b :: rest) pos) (.bl (k || k')) := fun B0 B σ H0 H Q j kk => by
  refine RE.of (pe_or pe_star pe_star) (h B0 B σ H0 H _ j fun v H0' H' g r => ⟨k, r, ?_⟩)
  cases k with
  | true => exact iteT (kk _ H0' H' g rfl)
  | false => exact iteF (h' rfl B0 B σ H0' H' _ (j.grow g) fun v G0 G g2 r2 => kk v G0 G (g.trans g2) r2)
theorem ad_nil : AD X ρ [] [] := fun B0 B σ H0 H Q j k => RA.of pa_nil (k [] H0 H (JH.refl j.same) rfl)
theorem ad_cons {es : List Expr} {ds : List D} (h : ED X ρ e d) (r : AD X ρ es ds) (hs : starEach (e :: es) X.env = (false, eval e X.env) :: starEach es X.env := by rfl) : AD X ρ (e :: es) (d :: ds) := fun B0 B σ H0 H Q j k =>
  RA.of (pa_cons pe_star pa_star hs) (h B0 B σ H0 H _ j fun v G0 G g1 r1 => r B0 B σ G0 G _ (j.grow g1) fun vs L0 L g2 r2 => k (v :: vs) L0 L (g1.trans g2) ⟨v, vs, rfl, DR.mono g2.s0 _ _ r1, r2⟩)
theorem ed_tup {es : List Expr} {ds : List D} {x1} (h : AD X ρ es ds) (hl : ds.length ≤ sizeLine := by first | decide | (simp only [List.length_cons, List.length_nil]; decide)) : ED X ρ (.Tuple es x1 pos) (.tup ds) := fun B0 B σ H0 H Q j k =>
  RE.of (pe_tup pa_star) (h B0 B σ H0 H _ j fun vs G0 G g r => ⟨by rw [← r.length]; exact hl, fun p hp => by
    have g2 : JH G0 G (upd G0 p (.tup vs)) (upd G p (.tup vs)) := JH.new g.sh hp
    exact k _ _ _ (g.trans g2) ⟨p, vs, rfl, SqT.of upd_same, DRs.mono g2.s0 _ _ r⟩⟩)
theorem eo_lst {es : List Expr} {ds : List D} (h : AD X ρ es ds) (hl : ds.length ≤ sizeLine := by first | decide | (simp only [List.length_cons, List.length_nil]; decide)) : EO X ρ (.List es pos) (.lst ds) := fun B0 B σ H0 H Q j k =>
  RE.of (pe_lst pa_star) (h B0 B σ H0 H _ j fun vs G0 G g r => ⟨by rw [← r.length]; exact hl, fun p hp => by
    have g2 : JH G0 G G0 (upd G p (.lst vs)) := JH.own g.sh hp
    exact k p _ _ _ (g.trans g2) upd_same (g.sh.free hp) (g.sB.free hp) ⟨vs, rfl, r⟩⟩)
theorem eo_dk : EO X ρ (.Dict [] [] pos) (.dk [] []) := fun B0 B σ H0 H Q j k =>
  RE.of pe_dnewK fun p hp => k p _ _ _ (JH.own j.same hp) upd_same (j.same.free hp) hp ⟨[], rfl, rfl, rfl⟩
def spR (K : PySem.W.Frag) (R : List D → D → Prop) : Sp := fun vs H Q _ => ∃ H0 ds d, Same H0 H ∧ DRs K H0 ds vs ∧ R ds d ∧ ∀ r H0' H', JH H0 H H0' H' → DR K H0' d r → Q r H'
/-- a def of the program at hand -/
structure Fn (P : Program) (w : World) (K : PySem.W.Frag) (mg : Str → Option Value) (base : Heap) (x : Str) (k : Nat) (R : List D → D → Prop) : Prop where
  ex : ∃ f fd ps, FnOk P w K mg base CX0 k f fd ps (spR K R) ∧ mg x = some (.ref f) ∧ PySem.W.keepIn K (.ref f) = true ∧ Binds K fd ps []
theorem ed_call {x : Str} {k : Nat} {R : List D → D → Prop} {es : List Expr} {ds : List D} {p : Pos} (G : Fn X.prog X.w X.K X.mg X.base x k R) (hr : Room k X.A) (hg : Gl X x) (ha : AD X ρ (e :: es) ds) (hR : R ds d)
    (hdb : (x == ("__debug__" : Str)) = false := by decide) (he : starEach (e :: es) X.env = (false, eval e X.env) :: starEach es X.env := by rfl) (hpl : (backTo pos (starEach es X.env)).any (·.1) = false := by rfl) :
    ED X ρ (.Call (.Name x p) (e :: es) [] pos) d := fun B0 B σ H0 H Q j kk => by
  obtain ⟨f, fd, ps, F, hm, hk, hb⟩ := G.ex
  refine RE.of (pe_call (E := E0) F hr hg hm hk hb .nil pass0 pa_star hdb he hpl) (ha B0 B σ H0 H _ j fun vs G0 G g r => ?_)
  rw [List.append_nil]
  exact ⟨G0, ds, d, g.sh, r, hR, fun v L0 L g2 r2 => kk v L0 L (g.trans g2) r2⟩
theorem ed_callB {x : Str} {id : String} {es : List Expr} {ds : List D} {p : Pos} (hg : Gl X x) (hm : X.mg x = none) (hv : bootBuiltins x = some (.builtin id)) (ha : AD X ρ (e :: es) ds) (h : BC X (.builtin id) ds d) (hn : x ≠ "__name__" := by decide) (hdb : (x == ("__debug__" : Str)) = false := by decide)
    (he : starEach (e :: es) X.env = (false, eval e X.env) :: starEach es X.env := by rfl) (hpl : (backTo pos (starEach es X.env)).any (·.1) = false := by rfl) : ED X ρ (.Call (.Name x p) (e :: es) [] pos) d := fun B0 B σ H0 H Q j kk => by
  obtain ⟨r, h1, h2⟩ := h
  exact RE.of (pe_callB h1 hg hm hv pa_star hn hdb he hpl) (ha B0 B σ H0 H _ j fun vs G0 G g r => h2 G0 G vs Q g.sh r fun v L0 L g2 r2 => kk v L0 L (g.trans g2) r2)
theorem ed_callT {x : Str} {T : String} {es : List Expr} {ds : List D} {p : Pos} (hg : Gl X x) (hm : X.mg x = none) (hv : bootBuiltins x = some (.type T)) (ha : AD X ρ (e :: es) ds) (h : BC X (.type T) ds d) (hn : x ≠ "__name__" := by decide) (hdb : (x == ("__debug__" : Str)) = false := by decide)
    (he : starEach (e :: es) X.env = (false, eval e X.env) :: starEach es X.env := by rfl) (hpl : (backTo pos (starEach es X.env)).any (·.1) = false := by rfl) : ED X ρ (.Call (.Name x p) (e :: es) [] pos) d := fun B0 B σ H0 H Q j kk => by
  obtain ⟨r, h1, h2⟩ := h
  exact RE.of (pe_callTy h1 hg hm hv pa_star hn hdb he hpl) (ha B0 B σ H0 H _ j fun vs G0 G g r => h2 G0 G vs Q g.sh r fun v L0 L g2 r2 => kk v L0 L (g.trans g2) r2)
theorem eo_callB {x : Str} {id : String} {es : List Expr} {ds : List D} {c : OC} {p : Pos} (hg : Gl X x) (hm : X.mg x = none) (hv : bootBuiltins x = some (.builtin id)) (ha : AD X ρ (e :: es) ds) (h : BO X (.builtin id) ds c) (hn : x ≠ "__name__" := by decide) (hdb : (x == ("__debug__" : Str)) = false := by decide)
    (he : starEach (e :: es) X.env = (false, eval e X.env) :: starEach es X.env := by rfl) (hpl : (backTo pos (starEach es X.env)).any (·.1) = false := by rfl) : EO X ρ (.Call (.Name x p) (e :: es) [] pos) c := fun B0 B σ H0 H Q j kk => by
  obtain ⟨r, h1, h2⟩ := h
  exact RE.of (pe_callB h1 hg hm hv pa_star hn hdb he hpl) (ha B0 B σ H0 H _ j fun vs G0 G g r => h2 G0 G vs Q g.sh r fun a o L0 L g2 h3 h4 h5 r2 => kk a o L0 L (g.trans g2) h3 h4 (g.sB.free h5) r2)
theorem eo_callT {x : Str} {T : String} {es : List Expr} {ds : List D} {c : OC} {p : Pos} (hg : Gl X x) (hm : X.mg x = none) (hv : bootBuiltins x = some (.type T)) (ha : AD X ρ (e :: es) ds) (h : BO X (.type T) ds c) (hn : x ≠ "__name__" := by decide) (hdb : (x == ("__debug__" : Str)) = false := by decide)
    (he : starEach (e :: es) X.env = (false, eval e X.env) :: starEach es X.env := by rfl) (hpl : (backTo pos (starEach es X.env)).any (·.1) = false := by rfl) : EO X ρ (.Call (.Name x p) (e :: es) [] pos) c := fun B0 B σ H0 H Q j kk => by
  obtain ⟨r, h1, h2⟩ := h
  exact RE.of (pe_callTy h1 hg hm hv pa_star hn hdb he hpl) (ha B0 B σ H0 H _ j fun vs G0 G g r => h2 G0 G vs Q g.sh r fun a o L0 L g2 h3 h4 h5 r2 => kk a o L0 L (g.trans g2) h3 h4 (g.sB.free h5) r2)
end
section
variable {X : Cx}
theorem o2_keep {K : PySem.W.Frag} {r : R2} {d e f : D} (v : V) (hv : ∀ H0 : Hp, DR K H0 f v) (h : ∀ H0 H x y (Q : VK), Same H0 H → DR K H0 d x → DR K H0 e y → Q v H → r x y H Q) : O2 K r d e f := fun H0 H x y Q s r1 r2 k =>
  h H0 H x y Q s r1 r2 (k v H0 H (JH.refl s) (hv H0))
theorem b2_add {i j : Int} : B2 X .Add (.int i) (.int j) (.int (i + j)) := ⟨_, op_add, o2_keep _ (fun _ => rfl) fun _ _ _ _ _ _ r1 r2 q => ⟨i, j, r1, r2, q⟩⟩
theorem b2_sub {i j : Int} : B2 X .Sub (.int i) (.int j) (.int (i - j)) := ⟨_, op_sub, o2_keep _ (fun _ => rfl) fun _ _ _ _ _ _ r1 r2 q => ⟨i, j, r1, r2, q⟩⟩
theorem b2_mul {i j : Int} (h : CMul i j) : B2 X .Mult (.int i) (.int j) (.int (i * j)) := ⟨_, op_mul, o2_keep _ (fun _ => rfl) fun _ _ _ _ _ _ r1 r2 q => ⟨i, j, r1, r2, h, q⟩⟩
theorem b2_fdiv {i j : Int} (h : CDiv i j) : B2 X .FloorDiv (.int i) (.int j) (.int (i / j)) := ⟨_, op_fdiv, o2_keep _ (fun _ => rfl) fun _ _ _ _ _ _ r1 r2 q => ⟨i, j, r1, r2, h, q⟩⟩
theorem b2_mod {i j : Int} (h : 0 < j) : B2 X .Mod (.int i) (.int j) (.int (i % j)) := ⟨_, op_mod, o2_keep _ (fun _ => rfl) fun _ _ _ _ _ _ r1 r2 q => ⟨i, j, r1, r2, h, q⟩⟩
theorem b2_pow {i j : Int} (h : CPow i j) : B2 X .Pow (.int i) (.int j) (.int (i ^ j.toNat)) := ⟨_, op_pow, o2_keep _ (fun _ => rfl) fun _ _ _ _ _ _ r1 r2 q => ⟨i, j, r1, r2, h, q⟩⟩
theorem b2_addS {i j : Str} (h : i.length + j.length ≤ sizeLine) : B2 X .Add (.str i) (.str j) (.str (i ++ j)) := ⟨_, op_add_str, o2_keep _ (fun _ => rfl) fun _ _ _ _ _ _ r1 r2 q => ⟨i, j, r1, r2, h, q⟩⟩
theorem c2_lt {i j : Int} : C2 X .Lt (.int i) (.int j) (.bl (decide (i < j))) := ⟨_, op_lt, o2_keep _ (fun _ => rfl) fun _ _ _ _ _ _ r1 r2 q => ⟨i, j, r1, r2, q⟩⟩
theorem c2_le {i j : Int} : C2 X .LtE (.int i) (.int j) (.bl (decide (i ≤ j))) := ⟨_, op_le, o2_keep _ (fun _ => rfl) fun _ _ _ _ _ _ r1 r2 q => ⟨i, j, r1, r2, q⟩⟩
theorem c2_gt {i j : Int} : C2 X .Gt (.int i) (.int j) (.bl (decide (j < i))) := ⟨_, op_gt, o2_keep _ (fun _ => rfl) fun _ _ _ _ _ _ r1 r2 q => ⟨i, j, r1, r2, q⟩⟩
theorem c2_ge {i j : Int} : C2 X .GtE (.int i) (.int j) (.bl (decide (j ≤ i))) := ⟨_, op_ge, o2_keep _ (fun _ => rfl) fun _ _ _ _ _ _ r1 r2 q => ⟨i, j, r1, r2, q⟩⟩
theorem c2_eqI {i j : Int} : C2 X .Eq (.int i) (.int j) (.bl (decide (i = j))) := ⟨_, op_eq, fun H0 H x y Q s r1 r2 k => by
  cases (show x = .int i from r1); cases (show y = .int j from r2)
  exact ⟨rfl, k _ H0 H (JH.refl s) (by simp [DR])⟩⟩
theorem c2_neI {i j : Int} : C2 X .NotEq (.int i) (.int j) (.bl (!decide (i = j))) := ⟨_, op_ne, fun H0 H x y Q s r1 r2 k => by
  cases (show x = .int i from r1); cases (show y = .int j from r2)
  exact ⟨rfl, k _ H0 H (JH.refl s) (by simp [DR])⟩⟩
theorem c2_eqS {i j : Str} : C2 X .Eq (.str i) (.str j) (.bl (decide (i = j))) := ⟨_, op_eq, fun H0 H x y Q s r1 r2 k => by
  cases (show x = .str i from r1); cases (show y = .str j from r2)
  exact ⟨rfl, k _ H0 H (JH.refl s) (by simp [DR])⟩⟩
theorem c2_neS {i j : Str} : C2 X .NotEq (.str i) (.str j) (.bl (!decide (i = j))) := ⟨_, op_ne, fun H0 H x y Q s r1 r2 k => by
  cases (show x = .str i from r1); cases (show y = .str j from r2)
  exact ⟨rfl, k _ H0 H (JH.refl s) (by simp [DR])⟩⟩
theorem c2_eqB {i j : Bool} : C2 X .Eq (.bl i) (.bl j) (.bl (decide (i = j))) := ⟨_, op_eq, fun H0 H x y Q s r1 r2 k => by
  cases (show x = .bl i from r1); cases (show y = .bl j from r2)
  exact ⟨rfl, k _ H0 H (JH.refl s) (by simp [DR])⟩⟩
theorem c2_neB {i j : Bool} : C2 X .NotEq (.bl i) (.bl j) (.bl (!decide (i = j))) := ⟨_, op_ne, fun H0 H x y Q s r1 r2 k => by
  cases (show x = .bl i from r1); cases (show y = .bl j from r2)
  exact ⟨rfl, k _ H0 H (JH.refl s) (by simp [DR])⟩⟩
theorem c2_isB {i j : Bool} : C2 X .Is (.bl i) (.bl j) (.bl (decide (i = j))) := ⟨_, op_isBl, o2_keep _ (fun _ => rfl) fun _ _ _ _ _ _ r1 r2 q => ⟨i, j, r1, r2, q⟩⟩
theorem c2_notB {i j : Bool} : C2 X .IsNot (.bl i) (.bl j) (.bl (!decide (i = j))) := ⟨_, op_notBl, o2_keep _ (fun _ => rfl) fun _ _ _ _ _ _ r1 r2 q => ⟨i, j, r1, r2, q⟩⟩
def isNon : D → Bool
  | .non => true
  | _ => false
theorem DR.non {K : PySem.W.Frag} {H : Hp} {d : D} {v : V} (h : DR K H d v) : decide (v = .non) = isNon d := by
  cases d with
  | non => cases (show v = .non from h); rfl
  | bl _ => cases (show v = .bl _ from h); rfl
  | int _ => cases (show v = .int _ from h); rfl
  | str _ => cases (show v = .str _ from h); rfl
  | ty _ => cases (show v = .ty _ from h); rfl
  | lst _ => obtain ⟨_, _, rfl, _⟩ := h; rfl
  | tup _ => obtain ⟨_, _, rfl, _⟩ := h; rfl
  | dk _ _ => obtain ⟨_, _, rfl, _⟩ := h; rfl
  | dt _ _ => obtain ⟨_, _, rfl, _⟩ := h; rfl
  | obj _ _ _ => obtain ⟨_, _, _, _, rfl, _⟩ := h; rfl
  | ad _ => cases (show v = .ref _ from h); rfl
  | ptp _ => obtain ⟨_, _, _, rfl, _⟩ := h; rfl
  | etp _ => obtain ⟨_, _, rfl, _⟩ := h; rfl
  | exc _ _ _ _ => obtain ⟨rfl, _⟩ := h; rfl
theorem c2_isN {d : D} : C2 X .Is d .non (.bl (isNon d)) := ⟨_, op_isN, fun H0 H x y Q s r1 r2 k => ⟨r2, k _ H0 H (JH.refl s) (by rw [r1.non]; rfl)⟩⟩
theorem c2_notN {d : D} : C2 X .IsNot d .non (.bl (!isNon d)) := ⟨_, op_notN, fun H0 H x y Q s r1 r2 k => ⟨r2, k _ H0 H (JH.refl s) (by rw [r1.non]; rfl)⟩⟩
mutual
def D.py : D → PyData
  | .non => .none
  | .bl b => .bool b
  | .int i => .int i
  | .str x => .str x
  | .lst ds => .list (D.pys ds)
  | .tup ds => .tuple (D.pys ds)
  | .dk _ _ => .none
  | .dt _ _ => .none
  | .obj _ _ _ => .none
  | .ad _ => .none
  | .ptp _ => .none
  | .etp _ => .none
  | .exc _ _ _ _ => .none
  | .ty _ => .none
def D.pys : List D → List PyData
  | [] => []
  | d :: ds => D.py d :: D.pys ds
end
mutual
def D.plain : D → Bool
  | .lst ds => D.plains ds
  | .tup ds => D.plains ds
  | .dk _ _ => false
  | .dt _ _ => false
  | .obj _ _ _ => false
  | .ad _ => false
  | .ptp _ => false
  | .etp _ => false
  | .exc _ _ _ _ => false
  | .ty _ => false
  | _ => true
def D.plains : List D → Bool
  | [] => true
  | d :: ds => D.plain d && D.plains ds
end
mutual
theorem DR.dp {K : PySem.W.Frag} {H : Hp} : ∀ (d : D) (v : V), d.plain = true → DR K H d v → Dp K H v d.py
  | .non, v, _, h => by cases (show v = .non from h); exact .non
  | .bl b, v, _, h => by cases (show v = .bl b from h); exact .bl b
  | .int b, v, _, h => by cases (show v = .int b from h); exact .int b
  | .str b, v, _, h => by cases (show v = .str b from h); exact .str b
  | .lst ds, v, p, h => by
    obtain ⟨a, vs, rfl, h2, h3⟩ := h
    exact .lst h2 (DRs.dp ds vs (by simpa [D.plain] using p) h3)
  | .tup ds, v, p, h => by
    obtain ⟨a, vs, rfl, h2, h3⟩ := h
    exact .tup h2 (DRs.dp ds vs (by simpa [D.plain] using p) h3)
  | .dk _ _, v, p, h => by simp [D.plain] at p
  | .dt _ _, v, p, h => by simp [D.plain] at p
  | .obj _ _ _, v, p, h => by simp [D.plain] at p
  | .ad _, v, p, h => by simp [D.plain] at p
  | .ptp _, v, p, h => by simp [D.plain] at p
  | .etp _, v, p, h => by simp [D.plain] at p
  | .exc _ _ _ _, v, p, h => by simp [D.plain] at p
  | .ty _, v, p, h => by simp [D.plain] at p
theorem DRs.dp {K : PySem.W.Frag} {H : Hp} : ∀ (ds : List D) (vs : List V), D.plains ds = true → DRs K H ds vs → DpAll K H vs (D.pys ds)
  | [], vs, _, h => by cases (show vs = [] from h); exact .nil
  | d :: ds, vs, p, h => by
    obtain ⟨v, r, rfl, h2, h3⟩ := h
    simp only [D.plains, Bool.and_eq_true] at p
    exact .cons (DR.dp d v p.1 h2) (DRs.dp ds r p.2 h3)
end
/-- data that == may be asked of -/
structure Cmp (d : D) : Prop where
  p : d.plain = true
  s : SeqAt.shaped d.py = true
theorem c2_eqD {d e : D} {k : Bool} (hu : X.A.units + 64 < cLine) (hd : Cmp d) (he : Cmp e) (h : PyData.eqv d.py e.py = k) : C2 X .Eq d e (.bl k) := ⟨_, op_eqD hu, fun H0 H x y Q s r1 r2 kk =>
  ⟨d.py, e.py, DR.dp _ _ hd.p (DR.mono s _ _ r1), DR.dp _ _ he.p (DR.mono s _ _ r2), hd.s, he.s, kk _ H0 H (JH.refl s) (by rw [h]; rfl)⟩⟩
theorem c2_neD {d e : D} {k : Bool} (hu : X.A.units + 64 < cLine) (hd : Cmp d) (he : Cmp e) (h : PyData.eqv d.py e.py = k) : C2 X .NotEq d e (.bl (!k)) := ⟨_, op_neD hu, fun H0 H x y Q s r1 r2 kk =>
  ⟨d.py, e.py, DR.dp _ _ hd.p (DR.mono s _ _ r1), DR.dp _ _ he.p (DR.mono s _ _ r2), hd.s, he.s, kk _ H0 H (JH.refl s) (by rw [h]; rfl)⟩⟩
theorem ix_t {ds : List D} {i : Int} {d : D} {ρ : En} {a b : Expr} {pos : Pos} (ha : ED X ρ a (.tup ds)) (hb : ED X ρ b (.int i)) (h : atI ds i = some d) (hs : PlainIx b := by exact fun _ _ => rfl) : ED X ρ (.Subscript a b pos) d := fun B0 B σ H0 H Q j kk => by
  refine RE.of (pe_ix ix_tup pe_star pe_star hs) (ha B0 B σ H0 H _ j fun x G0 G g1 r1 => hb B0 B σ G0 G _ (j.grow g1) fun y L0 L g2 r2 => ?_)
  obtain ⟨p, vs, rfl, h1, h2⟩ := DR.mono g2.s0 _ _ r1
  obtain ⟨k, e1, e2, _⟩ := atI_get h
  obtain ⟨v, h3, h4⟩ := DRs.get h2 e2
  have e4 : atI vs i = some v := by
    unfold atI at h ⊢
    rw [← DRs.length h2]
    cases q : ixN ds.length i with
    | none => rw [q] at h; cases h
    | some m =>
      rw [q] at h
      obtain ⟨v', h5, h6⟩ := DRs.get h2 (show ds[m]? = some d from h)
      show vs[m]? = some v
      have := (ixN_seq q).1
      rw [e1] at this
      cases this
      exact h3
  exact ⟨p, vs, i, v, rfl, r2, Same.seqT g2.sh h1, e4, kk v L0 L (g1.trans g2) h4⟩
theorem ix_l {ds : List D} {i : Int} {d : D} {ρ : En} {a b : Expr} {pos : Pos} (ha : ED X ρ a (.lst ds)) (hb : ED X ρ b (.int i)) (h : atI ds i = some d) (hs : PlainIx b := by exact fun _ _ => rfl) : ED X ρ (.Subscript a b pos) d := fun B0 B σ H0 H Q j kk => by
  refine RE.of (pe_ix ix_list pe_star pe_star hs) (ha B0 B σ H0 H _ j fun x G0 G g1 r1 => hb B0 B σ G0 G _ (j.grow g1) fun y L0 L g2 r2 => ?_)
  obtain ⟨p, vs, rfl, h1, h2⟩ := DR.mono g2.s0 _ _ r1
  obtain ⟨k, e1, e2, _⟩ := atI_get h
  obtain ⟨v, h3, h4⟩ := DRs.get h2 e2
  have e4 : atI vs i = some v := by
    unfold atI at h ⊢
    rw [← DRs.length h2]
    cases q : ixN ds.length i with
    | none => rw [q] at h; cases h
    | some m =>
      rw [q] at h
      show vs[m]? = some v
      have := (ixN_seq q).1
      rw [e1] at this
      cases this
      exact h3
  exact ⟨p, vs, i, v, rfl, r2, g2.sh.seq h1, e4, kk v L0 L (g1.trans g2) h4⟩
theorem bc_keep {f : Value} {ds : List D} {d : D} {r : List V → Hp → VK → Prop} (c : CallR X f r) (v : V) (hv : ∀ H0 : Hp, DR X.K H0 d v) (h : ∀ H0 H vs (Q : VK), Same H0 H → DRs X.K H0 ds vs → Q v H → r vs H Q) : BC X f ds d :=
  ⟨r, c, fun H0 H vs Q s r1 k => h H0 H vs Q s r1 (k v H0 H (JH.refl s) (hv H0))⟩
theorem DRs.two {K : PySem.W.Frag} {H : Hp} {d e : D} {vs : List V} (h : DRs K H [d, e] vs) : ∃ x y, vs = [x, y] ∧ DR K H d x ∧ DR K H e y := by
  obtain ⟨x, r, rfl, h1, h2⟩ := h
  obtain ⟨y, r, rfl, h3, h4⟩ := h2
  cases (show r = [] from h4)
  exact ⟨x, y, rfl, h1, h3⟩
theorem DRs.one' {K : PySem.W.Frag} {H : Hp} {d : D} {vs : List V} (h : DRs K H [d] vs) : ∃ x, vs = [x] ∧ DR K H d x := by
  obtain ⟨x, r, rfl, h1, h2⟩ := h
  cases (show r = [] from h2)
  exact ⟨x, rfl, h1⟩
theorem bc_int {i : Int} : BC X (.type "int") [.int i] (.int i) := bc_keep call_int1 _ (fun _ => rfl) fun _ _ vs _ _ r q => by
  obtain ⟨x, rfl, h⟩ := r.one'
  cases (show x = .int i from h)
  exact .inl ⟨i, rfl, q⟩
theorem bc_min2 {i j : Int} (hc : X.calm = true) : BC X (.builtin "min") [.int i, .int j] (.int (min i j)) := bc_keep (call_min2 hc) _ (fun _ => rfl) fun _ _ vs _ _ r q => by
  obtain ⟨x, y, rfl, h, h'⟩ := r.two
  cases (show x = .int i from h); cases (show y = .int j from h')
  have e : min i j = (if j < i then j else i) := by split <;> omega
  exact ⟨i, j, rfl, by rw [← e]; exact q⟩
theorem bc_max2 {i j : Int} (hc : X.calm = true) : BC X (.builtin "max") [.int i, .int j] (.int (max i j)) := bc_keep (call_max2 hc) _ (fun _ => rfl) fun _ _ vs _ _ r q => by
  obtain ⟨x, y, rfl, h, h'⟩ := r.two
  cases (show x = .int i from h); cases (show y = .int j from h')
  have e : max i j = (if j > i then j else i) := by split <;> omega
  exact ⟨i, j, rfl, by rw [← e]; exact q⟩
theorem bc_lenL {ds : List D} : BC X (.builtin "len") [.lst ds] (.int ds.length) := bc_keep call_len_seq _ (fun _ => rfl) fun _ _ vs _ s r q => by
  obtain ⟨x, rfl, a, ys, rfl, h1, h2⟩ := r.one'
  exact ⟨a, ys, rfl, .inl (s.seq h1), by rw [← DRs.length h2]; exact q⟩
theorem bc_lenT {ds : List D} : BC X (.builtin "len") [.tup ds] (.int ds.length) := bc_keep call_len_seq _ (fun _ => rfl) fun _ _ vs _ s r q => by
  obtain ⟨x, rfl, a, ys, rfl, h1, h2⟩ := r.one'
  exact ⟨a, ys, rfl, .inr (Same.seqT s h1), by rw [← DRs.length h2]; exact q⟩
theorem bc_lenS {z : Str} (h : z.length ≤ sizeLine) : BC X (.builtin "len") [.str z] (.int z.length) := bc_keep call_len_str _ (fun _ => rfl) fun _ _ vs _ s r q => by
  obtain ⟨x, rfl, h1⟩ := r.one'
  exact ⟨z, by rw [show x = .str z from h1], h, q⟩
theorem bc_tupL {ds : List D} : BC X (.type "tuple") [.lst ds] (.tup ds) := ⟨_, call_tuple_of, fun H0 H vs Q s r k => by
  obtain ⟨x, rfl, a, ys, rfl, h1, h2⟩ := r.one'
  exact ⟨a, ys, rfl, .inl ⟨s.seq h1, fun l hl => k _ (upd H0 l (.tup ys)) _ (JH.new s hl) ⟨l, ys, rfl, SqT.of upd_same, DRs.mono (JH.new s hl).s0 _ _ h2⟩⟩⟩⟩
theorem bc_tupT {ds : List D} : BC X (.type "tuple") [.tup ds] (.tup ds) := ⟨_, call_tuple_of, fun H0 H vs Q s r k => by
  obtain ⟨x, rfl, a, ys, rfl, h1, h2⟩ := r.one'
  exact ⟨a, ys, rfl, .inr ⟨Same.seqT s h1, k _ H0 H (JH.refl s) ⟨a, ys, rfl, h1, h2⟩⟩⟩⟩
theorem bo_listL {ds : List D} : BO X (.type "list") [.lst ds] (.lst ds) := ⟨_, call_list_of, fun H0 H vs Q s r k => by
  obtain ⟨x, rfl, a, ys, rfl, h1, h2⟩ := r.one'
  exact ⟨a, ys, rfl, .inl (s.seq h1), fun l hl => k l _ _ _ (JH.own s hl) upd_same (s.free hl) hl ⟨ys, rfl, h2⟩⟩⟩
theorem bo_listT {ds : List D} : BO X (.type "list") [.tup ds] (.lst ds) := ⟨_, call_list_of, fun H0 H vs Q s r k => by
  obtain ⟨x, rfl, a, ys, rfl, h1, h2⟩ := r.one'
  exact ⟨a, ys, rfl, .inr (Same.seqT s h1), fun l hl => k l _ _ _ (JH.own s hl) upd_same (s.free hl) hl ⟨ys, rfl, h2⟩⟩⟩
theorem bc_all {bs : List Bool} (hc : X.calm = true) : BC X (.builtin "all") [.lst (bs.map D.bl)] (.bl (bs.all id)) := bc_keep (cr_all hc) _ (fun _ => rfl) fun _ _ vs _ s r q => by
  obtain ⟨x, rfl, a, ys, rfl, h1, h2⟩ := r.one'
  rw [DRs.bls h2] at h1
  exact ⟨a, bs, rfl, s.seq h1, q⟩
end
end DL
namespace DL
open PySem PySem.Spec L2
def DG (X : Cx) (is : List Nat) (tg : Expr) (d : D) (ρ ρ' : En) : Prop := ∀ B0 B σ H0 H v (Q : St → Hp → Prop), J X.K B0 B σ H0 H ρ → DR X.K H0 d v → (∀ σ', J X.K B0 B σ' H0 H ρ' → (∀ k, k ∉ is → σ'[k]? = σ[k]?) → Q σ' H) → RG X tg v σ H Q
def DGs (X : Cx) (is : List Nat) (ts : List Expr) (ds : List D) (ρ ρ' : En) : Prop := ∀ B0 B σ H0 H vs (Q : St → Hp → Prop), J X.K B0 B σ H0 H ρ → DRs X.K H0 ds vs → (∀ σ', J X.K B0 B σ' H0 H ρ' → (∀ k, k ∉ is → σ'[k]? = σ[k]?) → Q σ' H) → RGs X ts vs σ H Q
section
variable {X : Cx} {ρ ρ' ρ2 : En} {e a b c : Expr} {d d1 d2 d3 : D} {pos : Pos}
theorem dg_name (i : Nat) {x : Str} (hN : X.N.Nodup) (hi : X.N[i]? = some x := by rfl) (hx : Loc X.env.scope x := by first | exact Or.inl rfl | exact Or.inr rfl) (hf : X.fn x = true ∨ X.env.scope.names.lookup x = some .local := by first | exact .inl rfl | exact .inr rfl) :
    DG X [i] (.Name x pos) d ρ (ρ.set i (.sh d)) := fun B0 B σ H0 H v Q j r k => by
  refine ⟨_, pg_name hN hi hx hf, k _ (j.setSh r) fun m hm => ?_⟩
  rw [List.getElem?_set_ne (fun e => hm (by simp [e]))]
theorem dgs_nil : DGs X [] [] [] ρ ρ := fun B0 B σ H0 H vs Q j r k => by
  cases (show vs = [] from r)
  exact ⟨_, pgs_nil, rfl, k σ j fun _ _ => rfl⟩
theorem dgs_cons {is is' : List Nat} {es : List Expr} {ds : List D} (h : DG X is e d ρ ρ') (r : DGs X is' es ds ρ' ρ2) (hs : (assignEach (e :: es) X.env).map (·.2) = assign e X.env :: (assignEach es X.env).map (·.2) := by rfl) :
    DGs X (is ++ is') (e :: es) (d :: ds) ρ ρ2 := fun B0 B σ H0 H vs Q j rr k => by
  obtain ⟨v, ws, rfl, r1, r2⟩ := rr
  refine ⟨_, pgs_cons pg_star pgs_star hs, v, ws, rfl, h B0 B σ H0 H v _ j r1 fun σ1 j1 k1 => r B0 B σ1 H0 H ws _ j1 r2 fun σ2 j2 k2 => k σ2 j2 fun m hm => ?_⟩
  rw [k2 m (fun z => hm (by simp [z])), k1 m (fun z => hm (by simp [z]))]
theorem dg_tup {is : List Nat} {es : List Expr} {ds : List D} {k1 : Nat} {n : Nat} (hc : X.calm = true) (h : DGs X is es ds ρ ρ') (hl : ds.length = n := by rfl) (hn : (assignEach es X.env).length = n := by rfl) (hst : (assignEach es X.env).findIdx? (·.1) = none := by rfl) :
    DG X is (.Tuple es k1 pos) (.tup ds) ρ ρ' := fun B0 B σ H0 H v Q j r k => by
  obtain ⟨p, vs, rfl, h1, h2⟩ := r
  exact ⟨_, pg_tup hc pgs_star hn hst, p, vs, rfl, Same.seqT j.same h1, by rw [← DRs.length h2]; exact hl, h B0 B σ H0 H vs Q j h2 k⟩
def DWalk (K : PySem.W.Frag) (Jt : It) (H0 : Hp) (ds : List D) : Prop := ∃ G Y, Walk Jt ds.length G Y ∧ (∀ H1 H, Same H0 H1 → Same H1 H → G H) ∧
  ∀ i H1 H x H' d, ds[i]? = some d → Same H0 H1 → Same H1 H → Y i H x H' → ∃ H1', JH H1 H H1' H' ∧ DR K H1' d x
def ID (X : Cx) (ρ : En) (tg iter : Expr) (ds : List D) : Prop := ∀ B0 B σ H0 H R, J X.K B0 B σ H0 H ρ → (∀ Jt H0' H', JH H0 H H0' H' → DWalk X.K Jt H0' ds → R Jt H') → RI X tg iter σ H R
theorem dw_list {K : PySem.W.Frag} {H0 : Hp} {p : Addr} {vs : List V} {ds : List D} (h : SqL K H0 p vs) (r : DRs K H0 ds vs) : DWalk K (Itl K p) H0 ds := by
  refine ⟨_, _, (by rw [DRs.length r]; exact walk_list (xs := vs)), fun H1 H s1 s2 => (s1.trans s2).seq h, fun i H1 H x H' d hd s1 s2 y => ?_⟩
  obtain ⟨rfl, hx⟩ := y
  obtain ⟨v, h1, h2⟩ := DRs.get r hd
  rw [hx] at h1; cases h1
  exact ⟨H1, JH.refl s2, DR.mono s1 _ _ h2⟩
theorem dw_tup {K : PySem.W.Frag} {H0 : Hp} {p : Addr} {vs : List V} {ds : List D} (h : SqT K H0 p vs) (r : DRs K H0 ds vs) : DWalk K (Itt K p) H0 ds := by
  refine ⟨_, _, (by rw [DRs.length r]; exact walk_tup (xs := vs)), fun H1 H s1 s2 => Same.seqT (s1.trans s2) h, fun i H1 H x H' d hd s1 s2 y => ?_⟩
  obtain ⟨rfl, hx⟩ := y
  obtain ⟨v, h1, h2⟩ := DRs.get r hd
  rw [hx] at h1; cases h1
  exact ⟨H1, JH.refl s2, DR.mono s1 _ _ h2⟩
/-- lo, lo + 1, .. -/
def rngD (lo : Int) (n : Nat) : List D := (List.range n).map fun (i : Nat) => D.int (lo + (i : Int))
theorem rngD_len (lo : Int) (n : Nat) : (rngD lo n).length = n := by simp [rngD]
theorem rngD_get {lo : Int} {n i : Nat} {d : D} (h : (rngD lo n)[i]? = some d) : i < n ∧ d = .int (lo + i) := by
  have hi : i < n := by have := (List.getElem?_eq_some_iff.mp h).1; rwa [rngD_len] at this
  refine ⟨hi, ?_⟩
  simp [rngD, List.getElem?_map, List.getElem?_range hi] at h
  exact h.symm
theorem dw_range {K : PySem.W.Frag} {H0 : Hp} {lo : Int} {n : Nat} : DWalk K (Itr lo n) H0 (rngD lo n) := by
  refine ⟨_, _, (by rw [rngD_len]; exact walk_range), fun _ _ _ _ => trivial, fun i H1 H x H' d hd s1 s2 y => ?_⟩
  obtain ⟨rfl, rfl⟩ := y
  obtain ⟨_, rfl⟩ := rngD_get hd
  exact ⟨H1, JH.refl s2, rfl⟩
theorem dw_pair {K : PySem.W.Frag} {Jt : It} {H0 : Hp} {n : Nat} {G : Hp → Prop} {xs ys : Nat → Option V} {ds : List D} {f g : Nat → Option D} (w : Walk Jt n G (YPair xs ys)) (hn : n = ds.length) (hG : ∀ H1 H, Same H0 H1 → Same H1 H → G H)
    (hd : ∀ i d, ds[i]? = some d → ∃ d1 d2, d = .tup [d1, d2] ∧ (∀ v, xs i = some v → DR K H0 d1 v) ∧ ∀ v, ys i = some v → DR K H0 d2 v) : DWalk K Jt H0 ds := by
  subst hn
  refine ⟨_, _, w, hG, fun i H1 H x H' d h s1 s2 y => ?_⟩
  obtain ⟨T, v1, v2, rfl, hT, rfl, hx, hy⟩ := y
  obtain ⟨d1, d2, rfl, q1, q2⟩ := hd i d h
  have g := JH.new (o := .tup [v1, v2]) s2 hT
  exact ⟨_, g, T, [v1, v2], rfl, SqT.of upd_same, v1, [v2], rfl, DR.mono (s1.trans g.s0) _ _ (q1 v1 hx), v2, [], rfl, DR.mono (s1.trans g.s0) _ _ (q2 v2 hy), rfl⟩
theorem id_list {ds : List D} {tg : Expr} (h : ED X ρ e (.lst ds)) : ID X ρ tg e ds := fun B0 B σ H0 H R j k =>
  ⟨_, pi_list pe_star, h B0 B σ H0 H _ j fun v G0 G g r => by
    obtain ⟨p, vs, rfl, h1, h2⟩ := r
    exact ⟨p, rfl, ⟨vs, g.sh.seq h1⟩, k _ G0 G g (dw_list h1 h2)⟩⟩
theorem id_tup {ds : List D} {tg : Expr} (h : ED X ρ e (.tup ds)) : ID X ρ tg e ds := fun B0 B σ H0 H R j k =>
  ⟨_, pi_tup pe_star, h B0 B σ H0 H _ j fun v G0 G g r => by
    obtain ⟨p, vs, rfl, h1, h2⟩ := r
    exact ⟨p, rfl, ⟨vs, Same.seqT g.sh h1⟩, k _ G0 G g (dw_tup h1 h2)⟩⟩
theorem id_range1 {tg : Expr} {p : Pos} {i : Int} (hg : Gl X "range") (hm : X.mg "range" = none) (ha : ED X ρ a (.int i)) (hb : -(2 ^ 62) ≤ i ∧ i < 2 ^ 62) (hs : starEach [a] X.env = [(false, eval a X.env)] := by rfl) (hs2 : starEach [a] X.env = (false, eval a X.env) :: starEach [] X.env := by rfl) :
    ID X ρ tg (.Call (.Name "range" p) [a] [] pos) (rngD 0 i.toNat) := fun B0 B σ H0 H R j k =>
  ⟨_, pi_range1 hg hm pa_star hs, ad_cons (X := X) ha ad_nil hs2 B0 B σ H0 H _ j fun vs G0 G g r => by
    obtain ⟨x, rfl, h⟩ := r.one'
    cases (show x = .int i from h)
    exact ⟨i, rfl, hb.1, hb.2, k _ G0 G g dw_range⟩⟩
/-- numbered from 0 -/
def enumD (ds : List D) : List D := (List.range ds.length).zipWith (fun i d => D.tup [.int (i : Nat), d]) ds
theorem enum_len (ds : List D) : (enumD ds).length = ds.length := by simp [enumD]
theorem enum_get {ds : List D} {i : Nat} {d : D} (h : (enumD ds)[i]? = some d) : ∃ d', ds[i]? = some d' ∧ d = .tup [.int (i : Nat), d'] := by
  have hi : i < ds.length := by have := (List.getElem?_eq_some_iff.mp h).1; rwa [enum_len] at this
  refine ⟨ds[i], by simp [hi], ?_⟩
  simp [enumD, List.getElem?_zipWith, List.getElem?_range hi, hi] at h
  exact h.symm
theorem id_enum {ds : List D} {elts : List Expr} {kk : Nat} {tpos p : Pos} (hg : Gl X "enumerate") (hm : X.mg "enumerate" = none) (ha : ED X ρ a (.lst ds)) (hs : starEach [a] X.env = [(false, eval a X.env)] := by rfl) (hs2 : starEach [a] X.env = (false, eval a X.env) :: starEach [] X.env := by rfl) :
    ID X ρ (.Tuple elts kk tpos) (.Call (.Name "enumerate" p) [a] [] pos) (enumD ds) := fun B0 B σ H0 H R j k =>
  ⟨_, pi_enum hg hm pa_star hs, ad_cons (X := X) ha ad_nil hs2 B0 B σ H0 H _ j fun vs G0 G g r => by
    obtain ⟨x, rfl, q, ys, rfl, h1, h2⟩ := r.one'
    refine ⟨q, ys, rfl, g.sh.seq h1, k _ G0 G g (dw_pair (f := fun _ => none) (g := fun _ => none) walk_enum (by rw [enum_len, DRs.length h2]) (fun H1 H s1 s2 => (s1.trans s2).seq h1) fun i d hd => ?_)⟩
    obtain ⟨d', e1, rfl⟩ := enum_get hd
    obtain ⟨v, e2, e3⟩ := DRs.get h2 e1
    refine ⟨_, _, rfl, fun v hv => ?_, fun v' hv => ?_⟩
    · cases hv; rfl
    · rw [e2] at hv; cases hv; exact e3⟩
def wipeE (ρ : En) : List Nat → En
  | [] => ρ
  | v :: vs => (wipeE ρ vs).set v .no
theorem J.setNo {K : PySem.W.Frag} {B0 B H0 H : Hp} {σ : St} {ρ : En} (j : J K B0 B σ H0 H ρ) (i : Nat) : J K B0 B (σ.set i none) H0 H (ρ.set i .no) := j.setTo (s := .no) True.intro fun a w => w.elim
theorem J.wipe {K : PySem.W.Frag} {B0 B H0 H : Hp} {σ : St} {ρ : En} (j : J K B0 B σ H0 H ρ) : ∀ vs : List Nat, J K B0 B (wipe σ vs) H0 H (wipeE ρ vs)
  | [] => j
  | v :: vs => (J.wipe j vs).setNo v
theorem wipe_at {σ : St} {i : Nat} : ∀ {vs : List Nat}, i ∈ vs → i < σ.length → (wipe σ vs)[i]? = some none
  | v :: vs, h, hl => by
    unfold wipe
    by_cases e : v = i
    · subst e
      rw [List.getElem?_set_self (by rw [wipe_length]; exact hl)]
    · rw [List.getElem?_set_ne e]
      exact wipe_at (by simpa [Ne.symm e] using h) hl
theorem wipe_back {σ σ2 : St} {vs : List Nat} (hl : σ2.length = σ.length) (h : ∀ k, k ∉ vs → σ2[k]? = (wipe σ vs)[k]?) : wipe σ2 vs = wipe σ vs := by
  refine List.ext_getElem? fun k => ?_
  by_cases hk : k ∈ vs
  · by_cases hb : k < σ.length
    · rw [wipe_at hk (by omega), wipe_at hk hb]
    · rw [List.getElem?_eq_none (by rw [wipe_length]; omega), List.getElem?_eq_none (by rw [wipe_length]; omega)]
  · rw [wipe_out hk, h k hk]
def RTs (X : Cx) (ifs : List Expr) : TT := fun σ H Q => ∃ t, PTs X ifs t ∧ t σ H Q
def TDs (X : Cx) (ρ : En) (ifs : List Expr) (b : Bool) : Prop := ∀ B0 B σ H0 H (Q : Bool → Hp → Prop), J X.K B0 B σ H0 H ρ → (∀ H0' H', JH H0 H H0' H' → Q b H') → RTs X ifs σ H Q
theorem tds_nil : TDs X ρ [] true := fun B0 B σ H0 H Q j k => ⟨_, pts_nil, k H0 H (JH.refl j.same)⟩
theorem tds_one {k : Bool} (h : TD X ρ c k) : TDs X ρ [c] k := fun B0 B σ H0 H Q j kk => ⟨_, pts_one pt_star, h B0 B σ H0 H _ j kk⟩
theorem filterMap_take {α β : Type} (g : α → Option β) (ds : List α) (i : Nat) (d : α) (h : ds[i]? = some d) : (ds.take (i + 1)).filterMap g = (ds.take i).filterMap g ++ (g d).toList := by
  rw [List.take_add_one, h, List.filterMap_append]
  cases q : g d <;> simp [List.filterMap_cons, q]
theorem filterMap_len {α β : Type} (g : α → Option β) (ds : List α) (i : Nat) : ((ds.take i).filterMap g).length ≤ i := by
  refine Nat.le_trans (List.length_filterMap_le _ _) ?_
  simp; omega
section
variable {elt tg iter : Expr} {ifs : List Expr} {scope : Scope} {own : List (Str × Nat)} {ds : List D}
/-- one turn of a comprehension, in every block that may be -/
def Turn1 (X : Cx) (ρ : En) (scope : Scope) (vs : List Nat) (tg elt : Expr) (ifs : List Expr) (d : D) (y : Option D) : Prop :=
  ∃ ρ' : En, ρ'.length = ρ.length ∧ ∀ (s : Shared) (H : Hp) (C : Addr) (cl : List (Str × Addr)) (fp : List Addr), DG (X.blk s H scope (compEnvC scope cl C X.env) fp) vs tg d (wipeE ρ vs) ρ' ∧
    (match y with
    | some z => TDs (X.blk s H scope (compEnvC scope cl C X.env) fp) ρ' ifs true ∧ ED (X.blk s H scope (compEnvC scope cl C X.env) fp) ρ' elt z
    | none => TDs (X.blk s H scope (compEnvC scope cl C X.env) fp) ρ' ifs false)
def GB (X : Cx) (scope : Scope) (tg : Expr) : TG := fun v σ H Q => ∀ (s : Shared) (H' : Hp) (C : Addr) (cl : List (Str × Addr)) (fp : List Addr), RG (X.blk s H' scope (compEnvC scope cl C X.env) fp) tg v σ H Q
def TB (X : Cx) (scope : Scope) (ifs : List Expr) : TT := fun σ H Q => ∀ (s : Shared) (H' : Hp) (C : Addr) (cl : List (Str × Addr)) (fp : List Addr), RTs (X.blk s H' scope (compEnvC scope cl C X.env) fp) ifs σ H Q
def EB (X : Cx) (scope : Scope) (elt : Expr) : TE := fun σ H Q => ∀ (s : Shared) (H' : Hp) (C : Addr) (cl : List (Str × Addr)) (fp : List Addr), RE (X.blk s H' scope (compEnvC scope cl C X.env) fp) elt σ H Q
def TLc (X : Cx) (scope : Scope) (own : List (Str × Nat)) (tg elt iter : Expr) (ifs : List Expr) : TE := tLc (RI X tg iter) (GB X scope tg) (TB X scope ifs) (EB X scope elt) (own.map (·.2))
theorem wipeE_length (ρ : En) : ∀ vs : List Nat, (wipeE ρ vs).length = ρ.length
  | [] => rfl
  | v :: vs => by unfold wipeE; rw [List.length_set, wipeE_length ρ vs]
theorem lc_read (hi : ID X ρ tg iter ds) (ys : List (Option D)) (hlen : ys.length = ds.length) (turn : ∀ (i : Nat) d y, ds[i]? = some d → ys[i]? = some y → Turn1 X ρ scope (own.map (·.2)) tg elt ifs d y) (hl : ds.length ≤ sizeLine) {B0 B : Hp} {σ : St} {H0 H : Hp} {Q : VK} (j : J X.K B0 B σ H0 H ρ)
    (k : ∀ a o H0' H', JH H0 H H0' H' → H' a = some o → H0' a = none → H a = none → OCR X.K H0' (.lst (ys.filterMap id)) o → Q (.ref a) H') : TLc X scope own tg elt iter ifs σ H Q := by
  refine hi B0 B σ H0 H _ j fun Jt G0 G g0 ⟨GG, Y, w, hG, hY⟩ => fun Dn hD => ?_
  have j0 := j.grow g0
  refine lc_it (g := GB X scope tg) (tt := TB X scope ifs) (te := EB X scope elt) (vs := own.map (·.2)) (Qd := fun H => Q (.ref Dn) H) w (fun i H1 => ∃ L0 acc, JH G0 G L0 H1 ∧ H1 Dn = some (.lst acc) ∧ L0 Dn = none ∧ DRs X.K L0 ((ys.take i).filterMap id) acc) ⟨G0, [], JH.own g0.sh hD, upd_same, g0.sh.free hD, rfl⟩ (fun i H1 _ ⟨L0, acc, g1, _⟩ => hG L0 H1 g1.s0 g1.sh) ?_ ?_
  · rintro i x H1 H1' hi ⟨L0, acc, g1, hDn, hD0, racc⟩ hy
    obtain ⟨d, hd⟩ : ∃ d, ds[i]? = some d := ⟨ds[i], by simp [hi]⟩
    obtain ⟨L1, g2, rx⟩ := hY i L0 H1 x H1' d hd g1.s0 g1.sh hy
    obtain ⟨yo, hyo⟩ : ∃ y, ys[i]? = some y := ⟨ys[i]'(by omega), by simp [show i < ys.length by omega]⟩
    obtain ⟨ρ', hlen', turn⟩ := turn i d yo hd hyo
    have j1 := ((j0.grow g1).grow g2).wipe (own.map (·.2))
    have hacc : acc.length < sizeLine := by
      have h1 := DRs.length racc
      have h2 := filterMap_len id ys i
      omega
    intro s Hs C cl fp
    refine (turn s Hs C cl fp).1 B0 B _ L1 H1' x _ j1 rx fun σ2 j2 off => ⟨wipe_back (by rw [j2.len, hlen', ← wipeE_length ρ (own.map (·.2)), ← j1.len, wipe_length]) off, ?_⟩
    have gg := g1.trans g2
    have hDn' : H1' Dn = some (.lst acc) := g2.sB _ _ hDn
    have hD0' : L1 Dn = none := g2.fr _ _ hDn trivial hD0
    have eT := filterMap_take id ys i yo hyo
    cases yo with
    | none =>
      intro s Hs C cl fp
      have t2 := (turn s Hs C cl fp).2
      refine t2 B0 B σ2 L1 H1' _ j2 fun M0 M g3 => iteF ⟨M0, acc, gg.trans g3, g3.sB _ _ hDn', g3.fr _ _ hDn' trivial hD0', ?_⟩
      rw [eT]
      simpa using DRs.mono (g2.trans g3).s0 _ _ racc
    | some z =>
      intro s Hs C cl fp
      have t2 := (turn s Hs C cl fp).2
      refine t2.1 B0 B σ2 L1 H1' _ j2 fun M0 M g3 => iteT fun s Hs C cl fp => ?_
      have t3 := (turn s Hs C cl fp).2
      refine t3.2 B0 B σ2 M0 M _ (j2.grow g3) fun y N0 N g4 ry => ?_
      have g34 := g3.trans g4
      have h4 : N Dn = some (.lst acc) := g34.sB _ _ hDn'
      have h40 : N0 Dn = none := g34.fr _ _ hDn' trivial hD0'
      have gl := gg.trans g34
      refine ⟨acc, h4, hacc, N0, acc ++ [y], ⟨gl.s0, fun b u e => upd_keep (gl.sh b u e) (ne_of_none e h40), fun b u e => upd_keep (gl.sB b u e) (ne_of_none e hD), gl.fr⟩, upd_same, h40, ?_⟩
      rw [eT]
      exact DRs.app (DRs.mono (g2.trans g34).s0 _ _ racc) (DRs.one ry)
  · rintro H1 ⟨L0, acc, g1, hDn, hD0, racc⟩
    rw [List.take_of_length_le (Nat.le_of_eq hlen)] at racc
    exact k Dn _ L0 H1 (g0.trans g1) hDn hD0 (g0.sB.free hD) ⟨acc, rfl, racc⟩
variable {cpos : Pos}
theorem eo_lc (own : List (Str × Nat)) (hc : X.calm = true) (hN : X.N.Nodup) (ok : BlkOk X.N X.env.scope scope own) (hi : ID X ρ tg iter ds) (ys : List (Option D)) (hlen : ys.length = ds.length) (turn : ∀ (i : Nat) d y, ds[i]? = some d → ys[i]? = some y → Turn1 X ρ scope (own.map (·.2)) tg elt ifs d y) (hl : ds.length ≤ sizeLine)
    (hs : ∀ x, foldedSetIterable iter X.env x = pure x := by intro _; rfl) : EO X ρ (.ListComp elt [⟨tg, iter, ifs, 0⟩] scope cpos) (.lst (ys.filterMap id)) := fun B0 B σ H0 H Q j k =>
  RE.of (pe_lc hc hN pi_star ok (g := GB X scope tg) (tt := TB X scope ifs) (te := EB X scope elt)
    (fun s H C cl fp => ⟨fun pins s1 σ1 H1 v u Q1 I r h => (pg_star (tg := tg)).run pins s1 σ1 H1 v u Q1 I r (h s H C cl fp)⟩)
    (fun s H C cl fp => ⟨fun pins s1 σ1 H1 Q1 I h => by obtain ⟨t, h1, h2⟩ := h s H C cl fp; exact h1.run pins s1 σ1 H1 Q1 I h2⟩)
    (fun s H C cl fp => ⟨fun pins s1 σ1 H1 Q1 I h => (pe_star (e := elt)).run pins s1 σ1 H1 Q1 I (h s H C cl fp)⟩) hs) (lc_read hi ys hlen turn hl j k)
end
inductive Out where
  | nx (ρ : En) | bk (ρ : En) | ct (ρ : En) | rt (d : D)
  /-- .. with what was its own -/
  | ro (c : OC)
  /-- .. with what it was lent -/
  | rc (d : D) (cs : List (Addr × OC))
def Post (K : PySem.W.Frag) (B0 B : Hp) (Dn : Ends) : Out → Prop
  | .nx ρ => ∀ σ H0 H, J K B0 B σ H0 H ρ → Dn.nx σ H
  | .bk ρ => ∀ σ H0 H, J K B0 B σ H0 H ρ → Dn.bk σ H
  | .ct ρ => ∀ σ H0 H, J K B0 B σ H0 H ρ → Dn.ct σ H
  | .rt d => ∀ v H0 H, JH B0 B H0 H → DR K H0 d v → Dn.rt v H
  | .ro c => ∀ a o H0 H, JH B0 B H0 H → H a = some o → H0 a = none → B a = none → OCR K H0 c o → Dn.rt (.ref a) H
  | .rc d cs => ∀ v H0 H, JH B0 B H0 H → (∀ p ∈ cs, CellR K B H0 H p.1 p.2) → (cs.map (·.1)).Nodup → DR K H0 d v → Dn.rt v H
def WS (X : Cx) (st : Stmt) (ρ : En) (Φ : Out → Prop) : Prop := ∀ B0 B σ H0 H Dn, J X.K B0 B σ H0 H ρ → (∀ o, Φ o → Post X.K B0 B Dn o) → RS X st Dn σ H
def WSs (X : Cx) (sts : List Stmt) (ρ : En) (Φ : Out → Prop) : Prop := ∀ B0 B σ H0 H Dn, J X.K B0 B σ H0 H ρ → (∀ o, Φ o → Post X.K B0 B Dn o) → RSs X sts Dn σ H
/-- what is wanted of a statement that others follow -/
def Then (X : Cx) (rest : List Stmt) (Φ : Out → Prop) : Out → Prop
  | .nx ρ => WSs X rest ρ Φ
  | o => Φ o
variable {st : Stmt} {rest : List Stmt} {Φ : Out → Prop}
theorem ws_nil (h : Φ (.nx ρ)) : WSs X [] ρ Φ := fun B0 B σ H0 H Dn j k => ⟨_, pss_nil, k _ h σ H0 H j⟩
theorem ws_cons (h : WS X st ρ (Then X rest Φ)) : WSs X (st :: rest) ρ Φ := fun B0 B σ H0 H Dn j k => by
  refine ⟨_, pss_cons ps_star pss_star, h B0 B σ H0 H _ j fun o ho => ?_⟩
  cases o with
  | nx ρ' => exact fun σ' H0' H' j' => ho B0 B σ' H0' H' Dn j' k
  | bk ρ' => exact k _ ho
  | ct ρ' => exact k _ ho
  | rt d => exact k _ ho
  | ro c => exact k _ ho
  | rc d cs => exact k _ ho
theorem ws_mono {Ψ : Out → Prop} (h : WSs X rest ρ Ψ) (k : ∀ o, Ψ o → Φ o) : WSs X rest ρ Φ := fun B0 B σ H0 H Dn j kk => h B0 B σ H0 H Dn j fun o ho => kk o (k o ho)
/-- what a slot owns is given to all -/
theorem ws_share (i : Nat) {c : OC} (hi : ρ[i]? = some (.ow c)) (h : WSs X rest (ρ.set i (.sh c.d)) Φ) : WSs X rest ρ Φ := fun B0 B σ H0 H Dn j k => by
  obtain ⟨H0', j', _⟩ := j.share hi
  exact h B0 B σ H0' H Dn j' k
theorem ws_drop (i : Nat) (h : WSs X rest (ρ.set i .no) Φ) : WSs X rest ρ Φ := fun B0 B σ H0 H Dn j k => h B0 B σ H0 H Dn (j.drop i) k
theorem ws_ret (h : ED X ρ e d) (hΦ : Φ (.rt d)) : WS X (.Return (some e) pos) ρ Φ := fun B0 B σ H0 H Dn j k =>
  ⟨_, ps_ret pe_star, h B0 B σ H0 H _ j fun v H0' H' g r => k _ hΦ v H0' H' (j.hp.trans g) r⟩
theorem ws_retO (i : Nat) {x : Str} {p1 : Pos} {c : OC} (hi : ρ[i]? = some (.ow c)) (hΦ : Φ (.ro c)) (hN : X.N[i]? = some x := by rfl) (hv : Vis X.env.scope x := by first | exact Or.inl rfl | exact Or.inr (Or.inl rfl) | exact Or.inr (Or.inr rfl)) (hd : (x == ("__debug__" : Str)) = false := by decide)
    (hcd : (x == ("__classdict__" : Str)) = false := by decide) : WS X (.Return (some (.Name x p1)) pos) ρ Φ := fun B0 B σ H0 H Dn j k => by
  obtain ⟨ov, e1, a, o, rfl, h1, h2, h3, h4⟩ := j.get hi
  exact ⟨_, ps_ret (pe_var hN hv hd hcd), .ref a, e1, k _ hΦ a o H0 H j.hp h1 h2 h3 h4⟩
theorem ws_break (hΦ : Φ (.bk ρ)) : WS X (.Break pos) ρ Φ := fun B0 B σ H0 H Dn j k => ⟨_, ps_break, k _ hΦ σ H0 H j⟩
theorem ws_if {k : Bool} {sa sb : List Stmt} (hc : TD X ρ c k) (h1 : k = true → WSs X sa ρ Φ) (h2 : k = false → WSs X sb ρ Φ) : WS X (.If c sa sb pos) ρ Φ := fun B0 B σ H0 H Dn j kk => by
  refine ⟨_, ps_if pt_star pss_star pss_star, hc B0 B σ H0 H _ j fun H0' H' g => ?_⟩
  cases k with
  | true => exact iteT (h1 rfl B0 B σ H0' H' Dn (j.grow g) kk)
  | false => exact iteF (h2 rfl B0 B σ H0' H' Dn (j.grow g) kk)
theorem ws_set (i : Nat) {x : Str} {pos' : Pos} (hN : X.N.Nodup) (he : ED X ρ e d) (hΦ : Φ (.nx (ρ.set i (.sh d)))) (hi : X.N[i]? = some x := by rfl) (hx : Loc X.env.scope x := by first | exact Or.inl rfl | exact Or.inr rfl)
    (hs : swapsWith e (some (.Name x pos')) pos.line X.env = pure false := by rfl) (hf : X.fn x = true ∨ X.env.scope.names.lookup x = some .local := by first | exact .inl rfl | exact .inr rfl) : WS X (.Assign [.Name x pos'] e pos) ρ Φ := fun B0 B σ H0 H Dn j k =>
  ⟨_, ps_set hN hi hx pe_star hs hf, he B0 B σ H0 H _ j fun v H0' H' g r => k _ hΦ _ H0' H' ((j.grow g).setSh r)⟩
theorem J.setNew {K : PySem.W.Frag} {B0 B H0 H H0' H' : Hp} {σ : St} {ρ : En} (j : J K B0 B σ H0 H ρ) (g : JH H0 H H0' H') {i : Nat} {c : OC} {a : Addr} {o : HO} (h : H' a = some o) (h0 : H0' a = none) (n : H a = none) (r : OCR K H0' c o) :
    J K B0 B (σ.set i (some (.ref a))) H0' H' (ρ.set i (.ow c)) :=
  (j.grow g).setOwn h h0 (j.hp.sB.free n) (fun m s ov _ hm hs w => by
    obtain ⟨o', h1, _⟩ := j.own hm hs w
    rw [n] at h1; cases h1) r
theorem ws_setO (i : Nat) {x : Str} {c : OC} {pos' : Pos} (hN : X.N.Nodup) (he : EO X ρ e c) (hΦ : Φ (.nx (ρ.set i (.ow c)))) (hi : X.N[i]? = some x := by rfl) (hx : Loc X.env.scope x := by first | exact Or.inl rfl | exact Or.inr rfl)
    (hs : swapsWith e (some (.Name x pos')) pos.line X.env = pure false := by rfl) (hf : X.fn x = true ∨ X.env.scope.names.lookup x = some .local := by first | exact .inl rfl | exact .inr rfl) : WS X (.Assign [.Name x pos'] e pos) ρ Φ := fun B0 B σ H0 H Dn j k =>
  ⟨_, ps_set hN hi hx pe_star hs hf, he B0 B σ H0 H _ j fun a o H0' H' g h1 h2 h3 r => k _ hΦ _ H0' H' (j.setNew g h1 h2 h3 r)⟩
section
variable {elt tg iter : Expr} {ifs : List Expr} {scope : Scope} {ds : List D} {cpos : Pos}
/-- y = [.. for ..], y a local of the def's own on the same line -/
theorem ws_setLc (i : Nat) (own : List (Str × Nat)) {y : Str} {py : Pos} (hc : X.calm = true) (hN : X.N.Nodup) (ok : BlkOk X.N X.env.scope scope own) (hi : ID X ρ tg iter ds) (ys : List (Option D)) (hlen : ys.length = ds.length) (turn : ∀ (i : Nat) d y, ds[i]? = some d → ys[i]? = some y → Turn1 X ρ scope (own.map (·.2)) tg elt ifs d y) (hl : ds.length ≤ sizeLine)
    (hΦ : Φ (.nx (ρ.set i (.ow (.lst (ys.filterMap id)))))) (hy : X.N[i]? = some y := by rfl) (hyl : X.env.scope.names.lookup y = some .local := by rfl)
    (hsw : swapsWith (.ListComp elt [⟨tg, iter, ifs, 0⟩] scope cpos) (some (.Name y py)) pos.line X.env = pure true := by exact sw_true rfl rfl rfl (by decide +kernel)) (hs : ∀ x, foldedSetIterable iter X.env x = pure x := by intro _; rfl) :
    WS X (.Assign [.Name y py] (.ListComp elt [⟨tg, iter, ifs, 0⟩] scope cpos) pos) ρ Φ := fun B0 B σ H0 H Dn j k =>
  ⟨_, ps_setLc hc hN hy hyl hsw pi_star ok (g := GB X scope tg) (tt := TB X scope ifs) (te := EB X scope elt)
    (fun s H C cl fp => ⟨fun pins s1 σ1 H1 v u Q1 I r h => (pg_star (tg := tg)).run pins s1 σ1 H1 v u Q1 I r (h s H C cl fp)⟩)
    (fun s H C cl fp => ⟨fun pins s1 σ1 H1 Q1 I h => by obtain ⟨t, h1, h2⟩ := h s H C cl fp; exact h1.run pins s1 σ1 H1 Q1 I h2⟩)
    (fun s H C cl fp => ⟨fun pins s1 σ1 H1 Q1 I h => (pe_star (e := elt)).run pins s1 σ1 H1 Q1 I (h s H C cl fp)⟩) hs,
   lc_read hi ys hlen turn hl j fun a o H0' H' gg h1 h2 h3 r => k _ hΦ _ H0' H' (j.setNew gg h1 h2 h3 r)⟩
end
/-- a, b, .. = e -/
theorem ws_unpack {tg : Expr} {is : List Nat} (he : ED X ρ e d) (hg : DG X is tg d ρ ρ') (hΦ : Φ (.nx ρ')) (hs : swapsWithSole [tg] e pos.line X.env = pure false := by rfl) (hw : swappedStores [tg] e X.env = pure none := by rfl)
    (h1 : (assignEach [tg] X.env).map (·.2) = [assign tg X.env] := by rfl) : WS X (.Assign [tg] e pos) ρ Φ := fun B0 B σ H0 H Dn j k =>
  ⟨_, ps_asg pe_star pg_star hs hw h1, he B0 B σ H0 H _ j fun v H0' H' g r => hg B0 B σ H0' H' v _ (j.grow g) r fun σ' j' _ => k _ hΦ σ' H0' H' j'⟩
/-- xs.append(e), xs a list of the def's own -/
theorem ws_append (i : Nat) {x : Str} {p1 p2 p3 : Pos} {ds : List D} (hi : ρ[i]? = some (.ow (.lst ds))) (he : ED X ρ e d) (hl : ds.length < sizeLine) (hΦ : Φ (.nx (ρ.set i (.ow (.lst (ds ++ [d]))))))
    (hpe : ∀ {ta : TA}, PA X [e] ta → PS X (.Expr (.Call (.Attribute (.Name x p1) "append" p2) [e] [] p3) pos) (tDrop (tBM X.K "list" rAppend (tVar i) ta))) (hs : starEach [e] X.env = (false, eval e X.env) :: starEach [] X.env := by rfl) :
    WS X (.Expr (.Call (.Attribute (.Name x p1) "append" p2) [e] [] p3) pos) ρ Φ := fun B0 B σ H0 H Dn j k => by
  obtain ⟨ov, e1, a, o, rfl, h1, h2, h3, vs, rfl, r⟩ := j.get hi
  refine ⟨_, hpe pa_star, .ref a, e1, Or.inl ⟨rfl, _, Or.inl (Or.inl h1)⟩, ad_cons (X := X) he ad_nil hs B0 B σ H0 H _ j fun ws G0 G g rr => ?_⟩
  obtain ⟨y, rfl, ry⟩ := rr.one'
  have j1 := j.grow g
  obtain ⟨ov', e1', a', o', e2, h1', _, _, vs', rfl, r'⟩ := j1.get hi
  rw [e1] at e1'; cases e1'; cases e2
  refine ⟨a, vs', y, rfl, rfl, h1', by rw [← DRs.length r']; exact hl, ?_⟩
  exact k _ hΦ _ G0 _ (j1.write hi e1 ⟨_, rfl, DRs.app r' (DRs.one ry)⟩)
/-- for: I by the turn and the slots -/
theorem ws_for {tg iter : Expr} {body : List Stmt} {ds : List D} (hc : X.calm = true) (hi : ID X ρ tg iter ds) (I : Nat → En → Prop) (h0 : I 0 ρ)
    (hs : ∀ i d ρ', ds[i]? = some d → I i ρ' → ∃ is ρ'', DG X is tg d ρ' ρ'' ∧ WSs X body ρ'' (fun o => match o with | .nx r => I (i + 1) r | .ct r => I (i + 1) r | .bk r => Φ (.nx r) | .rt v => Φ (.rt v) | .ro c => Φ (.ro c) | .rc v cs => Φ (.rc v cs))) (hd : ∀ ρ', I ds.length ρ' → Φ (.nx ρ'))
    (hp : PassesOwn (model X.prog X.w) X.A X.env X.xe := by exact PassesOwn.never) (hf : ∀ x, foldedSetIterable iter X.env x = pure x := by intro _; rfl) : WS X (.For tg iter body [] pos) ρ Φ := fun B0 B σ H0 H Dn j k => by
  refine ⟨_, ps_for hp hc pi_star pg_star pss_star hf, hi B0 B σ H0 H _ j fun Jt G0 G g0 ⟨GG, Y, w, hG, hY⟩ => ?_⟩
  have j0 := j.grow g0
  refine for_it w (fun i σ' H1 => ∃ ρ' L0, I i ρ' ∧ J X.K G0 B σ' L0 H1 ρ') ⟨ρ, G0, h0, j0.rebase⟩ (fun i σ' H1 _ ⟨ρ', L0, _, j1⟩ => hG L0 H1 j1.hp.s0 j1.hp.sh) ?_ ?_
  · rintro i x σ1 H1 H1' hi ⟨ρ1, L0, hI, j1⟩ hy
    obtain ⟨d, hd'⟩ : ∃ d, ds[i]? = some d := ⟨ds[i], by simp [hi]⟩
    obtain ⟨L1, g2, rx⟩ := hY i L0 H1 x H1' d hd' j1.hp.s0 j1.hp.sh hy
    obtain ⟨is, ρ2, hg, hb⟩ := hs i d ρ1 hd' hI
    refine hg G0 B σ1 L1 H1' x _ (j1.grow g2) rx fun σ2 j2 _ => ?_
    refine hb G0 B σ2 L1 H1' _ j2 fun o ho => ?_
    cases o with
    | nx r => exact fun σ3 M0 M j3 => ⟨r, M0, ho, j3⟩
    | ct r => exact fun σ3 M0 M j3 => ⟨r, M0, ho, j3⟩
    | bk r => exact fun σ3 M0 M j3 => k _ ho σ3 M0 M (j0.unbase j3)
    | rt v => exact fun v' M0 M g r => k _ ho v' M0 M ⟨j0.hp.s0.trans g.s0, g.sh, g.sB, fun b u e n e' => g.fr b u e n (j0.hp.fr b u e n e')⟩ r
    | ro c => exact fun a o M0 M g h1 h2 h3 r => k _ ho a o M0 M ⟨j0.hp.s0.trans g.s0, g.sh, g.sB, fun b u e n e' => g.fr b u e n (j0.hp.fr b u e n e')⟩ h1 h2 h3 r
    | rc v cs => exact fun a M0 M g h1 h2 r => k _ ho a M0 M ⟨j0.hp.s0.trans g.s0, g.sh, g.sB, fun b u e n e' => g.fr b u e n (j0.hp.fr b u e n e')⟩ h1 h2 r
  · rintro σ1 H1 ⟨ρ1, L0, hI, j1⟩
    exact k _ (hd ρ1 hI) σ1 L0 H1 (j0.unbase j1)
end
end DL
namespace DL
open PySem PySem.Spec PyProof.Rows L2
def en (N : List Str) (ds : List D) : En := ds.map Sl.sh ++ List.replicate (N.length - ds.length) Sl.no
section
variable {P : Program} {w : World} {K : PySem.W.Frag} {mg : Str → Option Value} {base : Heap}
theorem en_kind {N : List Str} {ds : List D} {i : Nat} {s : Sl} (h : (en N ds)[i]? = some s) : s = .no ∨ ∃ d, s = .sh d := by
  unfold en at h
  by_cases hi : i < ds.length
  · rw [List.getElem?_append_left (by simpa using hi), List.getElem?_map, show ds[i]? = some ds[i] by simp [hi]] at h
    cases h; exact .inr ⟨_, rfl⟩
  · rw [List.getElem?_append_right (by simp; omega), List.getElem?_replicate] at h
    split at h
    · cases h; exact .inl rfl
    · cases h
theorem j_start {N : List Str} {H0 H : Hp} {ds : List D} {vs : List V} (s : Same H0 H) (r : DRs K H0 ds vs) (hl : ds.length ≤ N.length) : J K H0 H (L2.start N vs) H0 H (en N ds) := by
  have hlen := DRs.length r
  refine ⟨JH.refl s, by simp [L2.start, en, hlen], fun i sl ov h1 h2 => ?_, fun i j s1 s2 o1 o2 a h1 _ _ _ w _ => absurd w (Owns.none (en_kind h1) a)⟩
  unfold en at h1
  unfold L2.start at h2
  by_cases hi : i < ds.length
  · rw [List.getElem?_append_left (by simpa using hi), List.getElem?_map] at h1
    rw [List.getElem?_append_left (by simp; omega), List.getElem?_map] at h2
    obtain ⟨v, e1, e2⟩ := DRs.get r (show ds[i]? = some ds[i] by simp [hi])
    rw [show ds[i]? = some ds[i] by simp [hi]] at h1
    rw [e1] at h2
    cases h1; cases h2
    exact ⟨v, rfl, e2⟩
  · rw [List.getElem?_append_right (by simp; omega), List.getElem?_replicate] at h1
    split at h1
    · cases h1; trivial
    · cases h1
/-- the context of a def's body -/
abbrev bx (P : Program) (w : World) (K : PySem.W.Frag) (mg : Str → Option Value) (base : Heap) (N : List Str) (qual : Str) (st : Stmt) (f : Addr) (cdv : Value) (A : Around) (outer : List Env) (s : Shared) (H : Hp) (E : XK) : Cx :=
  (cxOf CX0 P w K mg base N qual (defScope st) f cdv A outer s H E).nox
theorem fn_ok {x qual : Str} {st : Stmt} {f : Addr} {fd : FuncData} {N ps : List Str} {k : Nat} {R : List D → D → Prop} (F : Fun K x qual st f fd) (S : FnScope N ps (defScope st)) (hR : ∀ ds d, R ds d → ds.length = ps.length)
    (h : ∀ ds d, R ds d → ∀ (cdv : Value) (A : Around) (outer : List Env) (s : Shared) (H : Hp) (E : XK), Room k (A.deeper (envOfC qual (defScope st) s.heap.objs.size f cdv)) →
      WSs (bx P w K mg base N qual st f cdv A outer s H E) (defBody st) (en N ds) (fun o => o = .rt d ∨ (∃ ρ, o = .nx ρ ∧ d = .non))) : FnOk P w K mg base CX0 (k + 1) f fd ps (spR K R) := by
  refine F.ok S (fun vs H Q E hs => ?_) fun cdv A outer s H vs Q E hr hs => ?_
  · obtain ⟨H0, ds, d, _, r, q, _⟩ := hs
    rw [← DRs.length r]; exact hR ds d q
  · obtain ⟨H0, ds, d, s0, r, q, kk⟩ := hs
    have hN : ds.length ≤ N.length := by
      have h1 := hR ds d q
      have h2 := congrArg List.length S.pre
      rw [List.length_take] at h2
      omega
    obtain ⟨t, h1, h2⟩ := h ds d q cdv A outer s H E hr H0 H (L2.start N vs) H0 H (j_start s0 r hN) (Dn := { nx := fun _ H' => Q .non H', rt := Q }) fun o ho => by
      rcases ho with rfl | ⟨ρ, rfl, rfl⟩
      · exact fun v G0 G g rv => kk v G0 G g rv
      · exact fun σ G0 G j => kk .non G0 G j.hp rfl
    exact ⟨t, h1, h2⟩
/-- a def that gives a new thing of its own -/
def spO (K : PySem.W.Frag) (R : List D → OC → Prop) : Sp := fun vs H Q _ => ∃ H0 ds c, Same H0 H ∧ DRs K H0 ds vs ∧ R ds c ∧ ∀ a o H0' H', JH H0 H H0' H' → H' a = some o → H0' a = none → H a = none → OCR K H0' c o → Q (.ref a) H'
structure FnO (P : Program) (w : World) (K : PySem.W.Frag) (mg : Str → Option Value) (base : Heap) (x : Str) (k : Nat) (R : List D → OC → Prop) : Prop where
  ex : ∃ f fd ps, FnOk P w K mg base CX0 k f fd ps (spO K R) ∧ mg x = some (.ref f) ∧ PySem.W.keepIn K (.ref f) = true ∧ Binds K fd ps []
theorem fn_okO {x qual : Str} {st : Stmt} {f : Addr} {fd : FuncData} {N ps : List Str} {k : Nat} {R : List D → OC → Prop} (F : Fun K x qual st f fd) (S : FnScope N ps (defScope st)) (hR : ∀ ds d, R ds d → ds.length = ps.length)
    (h : ∀ ds d, R ds d → ∀ (cdv : Value) (A : Around) (outer : List Env) (s : Shared) (H : Hp) (E : XK), Room k (A.deeper (envOfC qual (defScope st) s.heap.objs.size f cdv)) →
      WSs (bx P w K mg base N qual st f cdv A outer s H E) (defBody st) (en N ds) (fun o => o = .ro d)) : FnOk P w K mg base CX0 (k + 1) f fd ps (spO K R) := by
  refine F.ok S (fun vs H Q E hs => ?_) fun cdv A outer s H vs Q E hr hs => ?_
  · obtain ⟨H0, ds, d, _, r, q, _⟩ := hs
    rw [← DRs.length r]; exact hR ds d q
  · obtain ⟨H0, ds, d, s0, r, q, kk⟩ := hs
    have hN : ds.length ≤ N.length := by
      have h1 := hR ds d q
      have h2 := congrArg List.length S.pre
      rw [List.length_take] at h2
      omega
    obtain ⟨t, h1, h2⟩ := h ds d q cdv A outer s H E hr H0 H (L2.start N vs) H0 H (j_start s0 r hN) (Dn := { nx := fun _ H' => Q .non H', rt := Q }) fun o ho => by
      subst ho
      exact fun a o G0 G g e1 e2 e3 rv => kk a o G0 G g e1 e2 e3 rv
    exact ⟨t, h1, h2⟩
theorem fn_wrapO {x : Str} {f : Addr} {fd : FuncData} {ps : List Str} {k : Nat} {R : List D → OC → Prop} (hm : mg x = some (.ref f)) (hb : Binds K fd ps []) (kp : PySem.W.keepIn K (.ref f) = true) (F : FnOk P w K mg base CX0 k f fd ps (spO K R)) :
    FnO P w K mg base x k R := ⟨⟨f, fd, ps, F, hm, kp, hb⟩⟩
theorem eo_call {X : Cx} {ρ : En} {e : Expr} {pos : Pos} {c : OC} {x : Str} {k : Nat} {R : List D → OC → Prop} {es : List Expr} {ds : List D} {p : Pos} (G : FnO X.prog X.w X.K X.mg X.base x k R) (hr : Room k X.A) (hg : Gl X x) (ha : AD X ρ (e :: es) ds) (hR : R ds c)
    (hdb : (x == ("__debug__" : Str)) = false := by decide) (he : starEach (e :: es) X.env = (false, eval e X.env) :: starEach es X.env := by rfl) (hpl : (backTo pos (starEach es X.env)).any (·.1) = false := by rfl) :
    EO X ρ (.Call (.Name x p) (e :: es) [] pos) c := fun B0 B σ H0 H Q j kk => by
  obtain ⟨f, fd, ps, F, hm, hk, hb⟩ := G.ex
  refine RE.of (pe_call (E := E0) F hr hg hm hk hb .nil pass0 pa_star hdb he hpl) (ha B0 B σ H0 H _ j fun vs G0 G g r => ?_)
  rw [List.append_nil]
  exact ⟨G0, ds, c, g.sh, r, hR, fun a o L0 L g2 e1 e2 e3 r2 => kk a o L0 L (g.trans g2) e1 e2 (g.sB.free e3) r2⟩
/-- what a law promises -/
inductive RLaw : List D → D → Prop where
  | mk (ns : List Int) (h : ns.length ≤ 63) : RLaw [.lst (ns.map .int)] (.bl true)
def spLaw (K : PySem.W.Frag) : Sp := fun vs H Q _ => ∃ (a : Addr) (ns : List Int), vs = [.ref a] ∧ SqL K H a (ns.map V.int) ∧ ns.length ≤ 63 ∧ ∀ H', Q (.bl true) H'
theorem law_sp {k : Nat} {f : Addr} {fd : FuncData} {ps : List Str} (F : FnOk P w K mg base CX0 k f fd ps (spR K RLaw)) : FnOk P w K mg base CX0 k f fd ps (spLaw K) :=
  F.imp fun vs H Q E ⟨a, ns, e, hS, hl, q⟩ => ⟨H, [.lst (ns.map .int)], .bl true, Same.refl H, by rw [e]; exact ⟨.ref a, [], rfl, ⟨a, _, rfl, hS, DRs.ofInts ns⟩, rfl⟩, ⟨ns, hl⟩, fun r H0' H' g rr => by
    cases (show r = .bl true from rr); exact q H'⟩
theorem walk_law {l : PySem.W.OpenLaw} {q : Program} {loose : List Str} {XP : (Str → Option Value) → Heap → Prop} {YP : World → Heap → Prop} {d : DefRec} {K : Params → PySem.W.Frag} {k : Nat} (hn : l.most = some 63) (hr : Room k callerA) (hdf : d.params.defaults = [])
    (hY : ∀ (w : World) (h : Heap), YP w h → (K w.params).In h)
    (F : ∀ (w : World) (mg : Str → Option Value) (fa : Addr) (h : Heap), (K w.params).In h → h.Ns mainGlobals mg → mg d.name = some (.ref fa) →
      ∃ fd : FuncData, (∀ (s : Shared) (u : Value), BindsTo s fd ⟨[u], []⟩ [("script", u)]) ∧ ∀ base : Heap, (K w.params).In base → base.Ns mainGlobals mg → FnOk l.prog w (K w.params) mg base CX0 k fa fd ["script"] (spR (K w.params) RLaw)) :
    PySem.W.WalkO q loose XP YP l.row.toRowW d [] (fun f vs => PySem.call f vs) :=
  L2.walk_of (n := 63) (k := k) (x := "script") (CX := fun _ => CX0) (sp := fun w => spLaw (K w.params)) hn (by decide) hdf hr hY
    (fun w mg fa h KX G e => let ⟨fd, h1, h2⟩ := F w mg fa h KX G e; ⟨fd, h1, fun base b1 b2 => law_sp (h2 base b1 b2)⟩) (fun _ _ a ns hl _ hS => ⟨a, ns, rfl, hS, hl, fun _ => rfl⟩) fun _ _ _ _ _ z => z
end
section
variable {X : Cx} {ρ : En}
/-- an item of a list, a tuple, a text -/
inductive IX : D → D → D → Prop where
  | t {ds i d} (h : atI ds i = some d) : IX (.tup ds) (.int i) d
  | l {ds i d} (h : atI ds i = some d) : IX (.lst ds) (.int i) d
theorem IX.t0 {a r} : IX (.tup (a :: r)) (.int 0) a := .t (by unfold atI ixN; simp only [List.length_cons]; rw [if_pos (by decide), if_pos (by omega)]; rfl)
theorem IX.t1 {a b r} : IX (.tup (a :: b :: r)) (.int 1) b := .t (by unfold atI ixN; simp only [List.length_cons]; rw [if_pos (by decide), if_pos (by omega)]; rfl)
theorem IX.t2 {a b c r} : IX (.tup (a :: b :: c :: r)) (.int 2) c := .t (by unfold atI ixN; simp only [List.length_cons]; rw [if_pos (by decide), if_pos (by omega)]; rfl)
theorem IX.t3 {a b c d r} : IX (.tup (a :: b :: c :: d :: r)) (.int 3) d := .t (by unfold atI ixN; simp only [List.length_cons]; rw [if_pos (by decide), if_pos (by omega)]; rfl)
theorem IX.t4 {a b c d e r} : IX (.tup (a :: b :: c :: d :: e :: r)) (.int 4) e := .t (by unfold atI ixN; simp only [List.length_cons]; rw [if_pos (by decide), if_pos (by omega)]; rfl)
theorem IX.t5 {a b c d e f r} : IX (.tup (a :: b :: c :: d :: e :: f :: r)) (.int 5) f := .t (by unfold atI ixN; simp only [List.length_cons]; rw [if_pos (by decide), if_pos (by omega)]; rfl)
theorem IX.l0 {a r} : IX (.lst (a :: r)) (.int 0) a := .l (by unfold atI ixN; simp only [List.length_cons]; rw [if_pos (by decide), if_pos (by omega)]; rfl)
theorem IX.l1 {a b r} : IX (.lst (a :: b :: r)) (.int 1) b := .l (by unfold atI ixN; simp only [List.length_cons]; rw [if_pos (by decide), if_pos (by omega)]; rfl)
theorem IX.l2 {a b c r} : IX (.lst (a :: b :: c :: r)) (.int 2) c := .l (by unfold atI ixN; simp only [List.length_cons]; rw [if_pos (by decide), if_pos (by omega)]; rfl)
theorem ed_ix {a b : Expr} {d1 d2 d : D} {pos : Pos} (ha : ED X ρ a d1) (hb : ED X ρ b d2) (h : IX d1 d2 d) (hs : PlainIx b := by exact fun _ _ => rfl) : ED X ρ (.Subscript a b pos) d := by
  cases h with
  | t h => exact ix_t ha hb h hs
  | l h => exact ix_l ha hb h hs
theorem atI_nn {α : Type} {xs : List α} {i : Int} {v : α} (h0 : 0 ≤ i) (h : xs[i.toNat]? = some v) : atI xs i = some v := by
  have e : ((i.toNat : Nat) : Int) = i := Int.toNat_of_nonneg h0
  rw [← e]; exact atI_nat h
/-- isinstance of a built-in class -/
def tyD : D → Option String
  | .non => some "NoneType" | .bl _ => some "bool" | .int _ => some "int" | .str _ => some "str"
  | .lst _ => some "list" | .tup _ => some "tuple" | .dk _ _ => some "dict" | .dt _ _ => none | .obj _ _ _ => none | .ad _ => none | .ptp _ => none | .etp _ => none | .exc _ _ _ _ => none | .ty _ => none
theorem tyx_of {K : PySem.W.Frag} {H : Hp} {d : D} {v : V} {n : String} (h : DR K H d v) (hn : tyD d = some n) (hnn : n ≠ "NoneType") : TyX K H v (.type n) := by
  cases d with
  | non => cases hn; exact absurd rfl hnn
  | bl _ => cases (show v = .bl _ from h); cases hn; exact .base (.bl _)
  | int _ => cases (show v = .int _ from h); cases hn; exact .base (.int _)
  | str _ => cases (show v = .str _ from h); cases hn; exact .base (.str _)
  | lst _ =>
    obtain ⟨a, vs, rfl, h1, _⟩ := h
    cases hn
    rcases h1 with (h1 | ⟨o, h1⟩) | ⟨o, its, n, h1, h2, _⟩
    · exact .base (.lst h1)
    · exact .base (.frz h1)
    · exact .kList h1 h2
  | tup _ =>
    obtain ⟨a, vs, rfl, h1, _⟩ := h
    cases hn
    rcases h1 with (h1 | ⟨o, h1⟩) | ⟨o, its, n, h1, h2, _⟩
    · exact .base (.tup h1)
    · exact .fTuple h1
    · exact .kTuple h1 h2
  | dk _ _ =>
    obtain ⟨a, vs, rfl, h1, _⟩ := h
    cases hn
    rcases h1 with h1 | ⟨o, h1⟩
    · exact .base (.dK h1)
    · exact .fDict h1
  | dt _ _ => cases hn
  | obj _ _ _ => cases hn
  | ad _ => cases hn
  | ptp _ => cases hn
  | etp _ => cases hn
  | exc _ _ _ _ => cases hn
  | ty _ => cases hn
theorem bc_isi {d : D} {n c : String} {b : Bool} (hn : tyD d = some n) (h : kitB n c = some b) (hnn : n ≠ "NoneType" := by decide) : BC X (.builtin "isinstance") [d, .ty c] (.bl b) :=
  bc_keep call_isi _ (fun _ => rfl) fun H0 H vs _ s r q => by
    obtain ⟨x, y, rfl, h1, h2⟩ := r.two
    cases (show y = .ty c from h2)
    exact ⟨x, .ty c, .type n, .type c, b, rfl, .ty c, tyx_of (DR.mono s _ _ h1) hn hnn, kit_ty h, q⟩
theorem ed_ty {x : Str} {n : String} {pos : Pos} (hg : Gl X x) (hm : X.mg x = none) (hv : bootBuiltins x = some (.type n)) (hn : x ≠ "__name__" := by decide) (hd : (x == ("__debug__" : Str)) = false := by decide) : ED X ρ (.Name x pos) (.ty n) :=
  fun B0 B σ H0 H Q j k => RE.of (pe_bltn (v := .ty n) hg hm hv rfl hn hd) (k _ H0 H (JH.refl j.same) rfl)
theorem filterMap_some {α β : Type} (f : α → β) : ∀ xs : List α, (xs.map fun x => some (f x)).filterMap id = xs.map f
  | [] => rfl
  | x :: xs => by simp [filterMap_some f xs]
theorem filterMap_if {α β : Type} (p : α → Bool) (f : α → β) : ∀ xs : List α, (xs.map fun x => if p x = true then some (f x) else none).filterMap id = (xs.filter p).map f
  | [] => rfl
  | x :: xs => by
    have ih := filterMap_if p f xs
    by_cases h : p x = true
    · simp only [List.map_cons, if_pos h, List.filter_cons_of_pos h, List.filterMap_cons, id, ih]
    · simp only [List.map_cons, if_neg h, List.filter_cons_of_neg h, List.filterMap_cons, id, ih]
section
variable {elt tg iter : Expr} {ifs : List Expr} {scope : Scope} {ds : List D} {cpos pos : Pos} {α β : Type} {Φ : Out → Prop}
theorem turns_map {own : List (Str × Nat)} {xs : List α} {enc : α → D} {f : α → D} (he : ds = xs.map enc) (turn : ∀ x ∈ xs, Turn1 X ρ scope (own.map (·.2)) tg elt ifs (enc x) (some (f x))) :
    ∀ (i : Nat) d y, ds[i]? = some d → (xs.map fun x => some (f x))[i]? = some y → Turn1 X ρ scope (own.map (·.2)) tg elt ifs d y := by
  subst he
  intro i d y h1 h2
  rw [List.getElem?_map] at h1 h2
  cases q : xs[i]? with
  | none => rw [q] at h1; cases h1
  | some x =>
    rw [q] at h1 h2
    cases h1; cases h2
    exact turn x (List.mem_of_getElem? q)
theorem turns_if {own : List (Str × Nat)} {xs : List α} {enc : α → D} {p : α → Bool} {f : α → D} (he : ds = xs.map enc) (turn : ∀ x ∈ xs, Turn1 X ρ scope (own.map (·.2)) tg elt ifs (enc x) (if p x = true then some (f x) else none)) :
    ∀ (i : Nat) d y, ds[i]? = some d → (xs.map fun x => if p x = true then some (f x) else none)[i]? = some y → Turn1 X ρ scope (own.map (·.2)) tg elt ifs d y := by
  subst he
  intro i d y h1 h2
  rw [List.getElem?_map] at h1 h2
  cases q : xs[i]? with
  | none => rw [q] at h1; cases h1
  | some x =>
    rw [q] at h1 h2
    cases h1; cases h2
    exact turn x (List.mem_of_getElem? q)
/-- [f x for x in xs] -/
theorem eo_map (own : List (Str × Nat)) (xs : List α) (enc : α → D) (f : α → D) (hc : X.calm = true) (hN : X.N.Nodup) (ok : BlkOk X.N X.env.scope scope own) (hi : ID X ρ tg iter ds) (he : ds = xs.map enc) (turn : ∀ x ∈ xs, Turn1 X ρ scope (own.map (·.2)) tg elt ifs (enc x) (some (f x))) (hl : xs.length ≤ sizeLine)
    (hs : ∀ x, foldedSetIterable iter X.env x = pure x := by intro _; rfl) : EO X ρ (.ListComp elt [⟨tg, iter, ifs, 0⟩] scope cpos) (.lst (xs.map f)) := by
  have h := eo_lc (cpos := cpos) own hc hN ok hi (xs.map fun x => some (f x)) (by rw [he]; simp) (turns_map he turn) (by rw [he]; simpa using hl) hs
  rwa [filterMap_some] at h
theorem ws_setMap (i : Nat) (own : List (Str × Nat)) (xs : List α) (enc : α → D) (f : α → D) {y : Str} {py : Pos} (hc : X.calm = true) (hN : X.N.Nodup) (ok : BlkOk X.N X.env.scope scope own) (hi : ID X ρ tg iter ds) (he : ds = xs.map enc) (turn : ∀ x ∈ xs, Turn1 X ρ scope (own.map (·.2)) tg elt ifs (enc x) (some (f x))) (hl : xs.length ≤ sizeLine)
    (hΦ : Φ (.nx (ρ.set i (.ow (.lst (xs.map f)))))) (hy : X.N[i]? = some y := by rfl) (hyl : X.env.scope.names.lookup y = some .local := by rfl)
    (hsw : swapsWith (.ListComp elt [⟨tg, iter, ifs, 0⟩] scope cpos) (some (.Name y py)) pos.line X.env = pure true := by exact sw_true rfl rfl rfl (by decide +kernel)) (hs : ∀ x, foldedSetIterable iter X.env x = pure x := by intro _; rfl) :
    WS X (.Assign [.Name y py] (.ListComp elt [⟨tg, iter, ifs, 0⟩] scope cpos) pos) ρ Φ :=
  ws_setLc i own hc hN ok hi (xs.map fun x => some (f x)) (by rw [he]; simp) (turns_map he turn) (by rw [he]; simpa using hl) (by rw [filterMap_some]; exact hΦ) hy hyl hsw hs
theorem ws_setFilter (i : Nat) (own : List (Str × Nat)) (xs : List α) (enc : α → D) (p : α → Bool) (f : α → D) {y : Str} {py : Pos} (hc : X.calm = true) (hN : X.N.Nodup) (ok : BlkOk X.N X.env.scope scope own) (hi : ID X ρ tg iter ds) (he : ds = xs.map enc) (turn : ∀ x ∈ xs, Turn1 X ρ scope (own.map (·.2)) tg elt ifs (enc x) (if p x = true then some (f x) else none)) (hl : xs.length ≤ sizeLine)
    (hΦ : Φ (.nx (ρ.set i (.ow (.lst ((xs.filter p).map f)))))) (hy : X.N[i]? = some y := by rfl) (hyl : X.env.scope.names.lookup y = some .local := by rfl)
    (hsw : swapsWith (.ListComp elt [⟨tg, iter, ifs, 0⟩] scope cpos) (some (.Name y py)) pos.line X.env = pure true := by exact sw_true rfl rfl rfl (by decide +kernel)) (hs : ∀ x, foldedSetIterable iter X.env x = pure x := by intro _; rfl) :
    WS X (.Assign [.Name y py] (.ListComp elt [⟨tg, iter, ifs, 0⟩] scope cpos) pos) ρ Φ :=
  ws_setLc i own hc hN ok hi (xs.map fun x => if p x = true then some (f x) else none) (by rw [he]; simp) (turns_if he turn) (by rw [he]; simpa using hl) (by rw [filterMap_if]; exact hΦ) hy hyl hsw hs
/-- for x in xs: I by the turn and the slots -/
theorem ws_forT (xs : List α) (enc : α → D) {body : List Stmt} (hc : X.calm = true) (hi : ID X ρ tg iter ds) (he : ds = xs.map enc) (I : Nat → En → Prop) (h0 : I 0 ρ)
    (hs : ∀ i x ρ', xs[i]? = some x → I i ρ' → ∃ is ρ'', DG X is tg (enc x) ρ' ρ'' ∧ WSs X body ρ'' (fun o => match o with | .nx r => I (i + 1) r | .ct r => I (i + 1) r | .bk r => Φ (.nx r) | .rt v => Φ (.rt v) | .ro c => Φ (.ro c) | .rc v cs => Φ (.rc v cs))) (hd : ∀ ρ', I xs.length ρ' → Φ (.nx ρ'))
    (hp : PassesOwn (model X.prog X.w) X.A X.env X.xe := by exact PassesOwn.never) (hf : ∀ x, foldedSetIterable iter X.env x = pure x := by intro _; rfl) : WS X (.For tg iter body [] pos) ρ Φ := by
  subst he
  refine ws_for hc hi I h0 (fun i d ρ' h1 h2 => ?_) (by simpa using hd) hp hf
  rw [List.getElem?_map] at h1
  cases q : xs[i]? with
  | none => rw [q] at h1; cases h1
  | some x =>
    rw [q] at h1
    cases h1
    exact hs i x ρ' q h2
end
def tru : D → Option Bool
  | .non => some false | .bl b => some b | .int i => some (i != 0) | .lst ds => some (!ds.isEmpty) | .tup ds => some (!ds.isEmpty) | _ => none
theorem DRs.emp {K : PySem.W.Frag} {H : Hp} {ds : List D} {vs : List V} (h : DRs K H ds vs) : vs.isEmpty = ds.isEmpty := by
  cases ds with
  | nil => cases (show vs = [] from h); rfl
  | cons d ds => obtain ⟨v, r, rfl, _⟩ := h; rfl
theorem td_truth {e : Expr} {d : D} {k : Bool} (h : ED X ρ e d) (hk : tru d = some k) (he : ∀ whole, isTrue e X.env whole = (do let v ← whole; standAt e.pos; holding [v] (truthy v)) := by intro _; rfl) : TD X ρ e k := fun B0 B σ H0 H Q j kk =>
  RT.of (pt_truth pe_star he) (h B0 B σ H0 H _ j fun v H0' H' g r => by
    cases d with
    | non => cases (show v = .non from r); cases hk; exact ⟨_, rfl, kk _ _ g⟩
    | bl _ => cases (show v = .bl _ from r); cases hk; exact ⟨_, rfl, kk _ _ g⟩
    | int _ => cases (show v = .int _ from r); cases hk; exact ⟨_, rfl, kk _ _ g⟩
    | lst ds =>
      obtain ⟨a, vs, rfl, h1, h2⟩ := r
      cases hk
      exact ⟨_, .inl ⟨vs, g.sh.seq h1, rfl⟩, by rw [h2.emp]; exact kk _ _ g⟩
    | tup ds =>
      obtain ⟨a, vs, rfl, h1, h2⟩ := r
      cases hk
      exact ⟨_, .inr (.inl ⟨vs, Same.seqT g.sh h1, rfl⟩), by rw [h2.emp]; exact kk _ _ g⟩
    | str _ => cases hk
    | ty _ => cases hk
    | dk _ _ => cases hk
    | dt _ _ => cases hk
    | obj _ _ _ => cases hk
    | ad _ => cases hk
    | ptp _ => cases hk
    | etp _ => cases hk
    | exc _ _ _ _ => cases hk)
theorem fn_wrap {P : Program} {w : World} {K : PySem.W.Frag} {mg : Str → Option Value} {base : Heap} {x : Str} {f : Addr} {fd : FuncData} {ps : List Str} {k : Nat} {R : List D → D → Prop} (hm : mg x = some (.ref f)) (hb : Binds K fd ps []) (kp : PySem.W.keepIn K (.ref f) = true) (F : FnOk P w K mg base CX0 k f fd ps (spR K R)) :
    Fn P w K mg base x k R := ⟨⟨f, fd, ps, F, hm, kp, hb⟩⟩
theorem b2_powL {i j n : Int} (h : CPow i j) (e : i ^ j.toNat = n) : B2 X .Pow (.int i) (.int j) (.int n) := e ▸ b2_pow h
theorem turn_if {Y : Cx} {scope : Scope} {vs : List Nat} {tg elt : Expr} {ifs : List Expr} {d y : D} {p : Bool} (h1 : p = true → Turn1 Y ρ scope vs tg elt ifs d (some y)) (h2 : p = false → Turn1 Y ρ scope vs tg elt ifs d none) :
    Turn1 Y ρ scope vs tg elt ifs d (if p = true then some y else none) := by
  cases p with
  | true => exact h1 rfl
  | false => exact h2 rfl
inductive Part (X : Cx) (ρ : En) : Option Expr → Option Int → Prop where
  | none : Part X ρ none none
  | some {e i} (h : ED X ρ e (.int i)) : Part X ρ (some e) (some i)
theorem no_part : Part X ρ none none := .none
theorem some_part {e i} (h : ED X ρ e (.int i)) : Part X ρ (some e) (some i) := .some h
def RP (X : Cx) (e : Option Expr) : TO := fun σ H Q => ∃ t, PO X e t ∧ t σ H Q
theorem po_star {e} : PO X e (RP X e) := ⟨fun pins s σ H Q I ⟨_, h, q⟩ => h.run pins s σ H Q I q⟩
theorem Part.run {e : Option Expr} {o : Option Int} (h : Part X ρ e o) {B0 B : Hp} {σ : L2.St} {H0 H : Hp} {Q : Option Int → Hp → Prop} (j : J X.K B0 B σ H0 H ρ) (k : ∀ H0' H', JH H0 H H0' H' → Q o H') : RP X e σ H Q := by
  cases h with
  | none => exact ⟨_, po_none, k H0 H (JH.refl j.same)⟩
  | some h => exact ⟨_, po_some pe_star, h B0 B σ H0 H _ j fun v H0' H' g r => ⟨_, r, k H0' H' g⟩⟩
def cutD (xs : List D) (lo hi : Option Int) : List D := (xs.drop (HT.sIx xs.length 0 lo)).take (HT.sIx xs.length xs.length hi - HT.sIx xs.length 0 lo)
theorem DRs.cut {K : PySem.W.Frag} {H : Hp} {ds : List D} {vs : List V} (h : DRs K H ds vs) (lo hi : Option Int) : DRs K H (cutD ds lo hi) (cutV vs lo hi) := by
  unfold cutD cutV
  rw [← DRs.length h]
  exact DRs.take _ (DRs.drop _ h)
theorem eo_slice {e : Expr} {lo hi : Option Expr} {p q : Option Int} {ds : List D} {p2 pos : Pos} (he : ED X ρ e (.lst ds)) (hl : Part X ρ lo p) (hh : Part X ρ hi q) : EO X ρ (.Subscript e (.Slice lo hi none p2) pos) (.lst (cutD ds p q)) := fun B0 B σ H0 H Q j k =>
  RE.of (pe_slice sl_list pe_star po_star po_star) (he B0 B σ H0 H _ j fun v G0 G g1 r => hl.run (j.grow g1) fun L0 L g2 => hh.run ((j.grow g1).grow g2) fun M0 M g3 => by
    obtain ⟨a, vs, rfl, h1, h2⟩ := r
    have g := g2.trans g3
    exact ⟨a, vs, rfl, g.sh.seq (g.s0.seq h1), fun p hp => k p _ M0 _ ((g1.trans g).trans (JH.own g.sh hp)) upd_same (g.sh.free hp) ((g1.trans g).sB.free hp) ⟨_, rfl, DRs.cut (DRs.mono g.s0 _ _ h2) _ _⟩⟩)
theorem rngD0 (n : Nat) : rngD 0 n = (List.range n).map fun (i : Nat) => D.int (i : Int) := by
  unfold rngD
  refine List.map_congr_left fun i _ => ?_
  rw [Int.zero_add]
/-- some slots changed -/
def upds (ρ : En) (l : List (Nat × Sl)) : En := l.foldl (fun r p => r.set p.1 p.2) ρ
/-- for x in xs: what changes from turn to turn is told slot by slot: G, of the turn and of what one doesn't care for (V reads it off) -/
theorem ws_forU {α U : Type} {tg iter : Expr} {ds : List D} {pos : Pos} {Φ : Out → Prop} (xs : List α) (enc : α → D) {body : List Stmt} (hc : X.calm = true) (hi : ID X ρ tg iter ds) (he : ds = xs.map enc) (G : Nat → U → List (Nat × Sl)) (V : En → U) (P : Nat → Prop) (hρ : upds ρ (G 0 (V ρ)) = ρ) (h0 : P 0)
    (hs : ∀ i x u, xs[i]? = some x → P i → ∃ is ρ'', DG X is tg (enc x) (upds ρ (G i u)) ρ'' ∧ WSs X body ρ'' (fun o => match o with | .nx r => upds ρ (G (i + 1) (V r)) = r ∧ P (i + 1) | .ct r => upds ρ (G (i + 1) (V r)) = r ∧ P (i + 1) | .bk r => Φ (.nx r) | .rt v => Φ (.rt v) | .ro c => Φ (.ro c) | .rc v cs => Φ (.rc v cs)))
    (hd : ∀ u, P xs.length → Φ (.nx (upds ρ (G xs.length u))))
    (hp : PassesOwn (model X.prog X.w) X.A X.env X.xe := by exact PassesOwn.never) (hf : ∀ x, foldedSetIterable iter X.env x = pure x := by intro _; rfl) : WS X (.For tg iter body [] pos) ρ Φ := by
  refine ws_forT xs enc hc hi he (fun i r => (∃ u, upds ρ (G i u) = r) ∧ P i) ⟨⟨V ρ, hρ⟩, h0⟩ (fun i x r hx hI => ?_) (fun r hI => ?_) hp hf
  · obtain ⟨⟨u, rfl⟩, p⟩ := hI
    obtain ⟨is, r2, h1, h2⟩ := hs i x u hx p
    refine ⟨is, r2, h1, ws_mono h2 fun o ho => ?_⟩
    cases o with
    | nx r => exact ⟨⟨_, ho.1⟩, ho.2⟩
    | ct r => exact ⟨⟨_, ho.1⟩, ho.2⟩
    | bk r => exact ho
    | rt v => exact ho
    | ro c => exact ho
    | rc v cs => exact ho
  · obtain ⟨⟨u, rfl⟩, p⟩ := hI
    exact hd u p
end
theorem bb_len : bootBuiltins (PySem.Str.ofString "len") = some (.builtin "len") := by decide +kernel
theorem bb_min : bootBuiltins (PySem.Str.ofString "min") = some (.builtin "min") := by decide +kernel
theorem bb_max : bootBuiltins (PySem.Str.ofString "max") = some (.builtin "max") := by decide +kernel
theorem bb_all : bootBuiltins (PySem.Str.ofString "all") = some (.builtin "all") := by decide +kernel
theorem bb_isinstance : bootBuiltins (PySem.Str.ofString "isinstance") = some (.builtin "isinstance") := by decide +kernel
theorem bb_sorted : bootBuiltins (PySem.Str.ofString "sorted") = some (.builtin "sorted") := by decide +kernel
theorem bb_int : bootBuiltins (PySem.Str.ofString "int") = some (.type "int") := by decide +kernel
theorem bb_tuple : bootBuiltins (PySem.Str.ofString "tuple") = some (.type "tuple") := by decide +kernel
theorem bb_list : bootBuiltins (PySem.Str.ofString "list") = some (.type "list") := by decide +kernel
theorem bb_str : bootBuiltins (PySem.Str.ofString "str") = some (.type "str") := by decide +kernel
theorem bb_dict : bootBuiltins (PySem.Str.ofString "dict") = some (.type "dict") := by decide +kernel
theorem bb_set : bootBuiltins (PySem.Str.ofString "set") = some (.type "set") := by decide +kernel
end DL
namespace DL
open PySem PySem.Spec PyProof.Rows L2
/-- data of ints and short texts, n deep -/
def smallStr (x : Str) : Prop := PyData.strOk x = true
inductive Cm : Nat → D → Prop where
  | int {n i} : Cm n (.int i)
  | str {n x} (h : smallStr x) : Cm n (.str x)
  | tup {n ds} (h : ∀ d ∈ ds, Cm n d) : Cm (n + 1) (.tup ds)
  | lst {n ds} (h : ∀ d ∈ ds, Cm n d) : Cm (n + 1) (.lst ds)
theorem Cm.mono {n m : Nat} (h : n ≤ m) {d : D} (c : Cm n d) : Cm m d := by
  induction c generalizing m with
  | int => exact .int
  | str q => exact .str q
  | tup _ ih =>
    obtain ⟨m, rfl⟩ : ∃ m', m = m' + 1 := ⟨m - 1, by omega⟩
    exact .tup fun d hd => ih d hd (by omega)
  | lst _ ih =>
    obtain ⟨m, rfl⟩ : ∃ m', m = m' + 1 := ⟨m - 1, by omega⟩
    exact .lst fun d hd => ih d hd (by omega)
theorem plains_iff : ∀ {ds : List D}, (∀ d ∈ ds, d.plain = true) → D.plains ds = true
  | [], _ => by simp [D.plains]
  | d :: ds, h => by simp only [D.plains, Bool.and_eq_true]; exact ⟨h d (by simp), plains_iff fun e he => h e (by simp [he])⟩
theorem lays_iff : ∀ {ds : List D}, (∀ d ∈ ds, d.py.canLay0 = true) → PyData.canLayAll0 (D.pys ds) = true
  | [], _ => by simp [D.pys, PyData.canLayAll0]
  | d :: ds, h => by simp only [D.pys, PyData.canLayAll0, Bool.and_eq_true]; exact ⟨h d (by simp), lays_iff fun e he => h e (by simp [he])⟩
theorem depths_le : ∀ {ds : List D} {n : Nat}, (∀ d ∈ ds, d.py.depth ≤ n) → PyData.depthAll (D.pys ds) ≤ n
  | [], n, _ => by simp [D.pys, PyData.depthAll]
  | d :: ds, n, h => by
    simp only [D.pys, PyData.depthAll]
    have h1 := h d (by simp)
    have h2 := depths_le (ds := ds) (n := n) fun e he => h e (by simp [he])
    omega
theorem Cm.plain {n : Nat} {d : D} (c : Cm n d) : d.plain = true := by
  induction c with
  | int => simp [D.plain]
  | str _ => simp [D.plain]
  | tup _ ih => simp only [D.plain]; exact plains_iff ih
  | lst _ ih => simp only [D.plain]; exact plains_iff ih
theorem Cm.lay {n : Nat} {d : D} (c : Cm n d) : d.py.canLay0 = true := by
  induction c with
  | int => simp [D.py, PyData.canLay0]
  | str h => simp only [D.py, PyData.canLay0]; exact h
  | tup _ ih => simp only [D.py, PyData.canLay0]; exact lays_iff ih
  | lst _ ih => simp only [D.py, PyData.canLay0]; exact lays_iff ih
theorem Cm.depth {n : Nat} {d : D} (c : Cm n d) : d.py.depth ≤ n + 1 := by
  induction c with
  | int => simp [D.py, PyData.depth]
  | str _ => simp [D.py, PyData.depth]
  | tup _ ih => simp only [D.py, PyData.depth]; have := depths_le ih; omega
  | lst _ ih => simp only [D.py, PyData.depth]; have := depths_le ih; omega
theorem Cm.cmp {n : Nat} {d : D} (c : Cm n d) (hn : n ≤ 63) : Cmp d := ⟨c.plain, by
  unfold SeqAt.shaped
  rw [c.lay]
  have := c.depth
  simp; omega⟩
theorem Cm.inv {n : Nat} {d : D} (c : Cm n d) : (∃ i, d = .int i) ∨ (∃ x, d = .str x) ∨ (∃ ds m, d = .tup ds ∧ n = m + 1 ∧ ∀ e ∈ ds, Cm m e) ∨ (∃ ds m, d = .lst ds ∧ n = m + 1 ∧ ∀ e ∈ ds, Cm m e) := by
  cases c with
  | int => exact .inl ⟨_, rfl⟩
  | str _ => exact .inr (.inl ⟨_, rfl⟩)
  | tup h => exact .inr (.inr (.inl ⟨_, _, rfl, rfl, h⟩))
  | lst h => exact .inr (.inr (.inr ⟨_, _, rfl, rfl, h⟩))
theorem eqvs_iff {n m : Nat} (ih : ∀ d e, Cm n d → Cm m e → (PyData.eqv d.py e.py = true ↔ d = e)) : ∀ (ds es : List D), (∀ d ∈ ds, Cm n d) → (∀ e ∈ es, Cm m e) → (PyData.eqvAll (D.pys ds) (D.pys es) = true ↔ ds = es)
  | [], [], _, _ => by simp [D.pys, PyData.eqvAll]
  | [], e :: es, _, _ => by simp [D.pys, PyData.eqvAll]
  | d :: ds, [], _, _ => by simp [D.pys, PyData.eqvAll]
  | d :: ds, e :: es, h1, h2 => by
    have h3 := eqvs_iff ih ds es (fun x hx => h1 x (by simp [hx])) (fun x hx => h2 x (by simp [hx]))
    have h4 := ih d e (h1 d (by simp)) (h2 e (by simp))
    simp only [D.pys, PyData.eqvAll, Bool.and_eq_true, h3, h4, List.cons.injEq]
theorem eqv_iff : ∀ (n m : Nat) (d e : D), Cm n d → Cm m e → (PyData.eqv d.py e.py = true ↔ d = e)
  | n, m, d, e, c, c' => by
    rcases c.inv with ⟨i, rfl⟩ | ⟨x, rfl⟩ | ⟨ds, k, rfl, rfl, h⟩ | ⟨ds, k, rfl, rfl, h⟩ <;> rcases c'.inv with ⟨j, rfl⟩ | ⟨y, rfl⟩ | ⟨es, l, rfl, rfl, h'⟩ | ⟨es, l, rfl, rfl, h'⟩
    · simp [D.py, PyData.eqv]
    · simp [D.py, PyData.eqv]
    · simp [D.py, PyData.eqv]
    · simp [D.py, PyData.eqv]
    · simp [D.py, PyData.eqv]
    · simp [D.py, PyData.eqv]
    · simp [D.py, PyData.eqv]
    · simp [D.py, PyData.eqv]
    · simp [D.py, PyData.eqv]
    · simp [D.py, PyData.eqv]
    · simp only [D.py, PyData.eqv, D.tup.injEq]
      exact eqvs_iff (fun d e c c' => eqv_iff k l d e c c') ds es h h'
    · simp [D.py, PyData.eqv]
    · simp [D.py, PyData.eqv]
    · simp [D.py, PyData.eqv]
    · simp [D.py, PyData.eqv]
    · simp only [D.py, PyData.eqv, D.lst.injEq]
      exact eqvs_iff (fun d e c c' => eqv_iff k l d e c c') ds es h h'
theorem Cm.ints {n : Nat} {ns : List Int} : ∀ d ∈ ns.map D.int, Cm n d := fun d hd => by
  obtain ⟨i, _, rfl⟩ := List.mem_map.mp hd
  exact .int
theorem Cm.all_nil {n : Nat} : ∀ d ∈ ([] : List D), Cm n d := fun d hd => by simp at hd
theorem Cm.all_cons {n : Nat} {d : D} {ds : List D} (h : Cm n d) (r : ∀ e ∈ ds, Cm n e) : ∀ e ∈ d :: ds, Cm n e := fun e he => by
  rcases List.mem_cons.mp he with rfl | he
  · exact h
  · exact r e he
section
variable {X : Cx} {ρ : En}
theorem c2_eqC {n m : Nat} {d e : D} {k : Bool} (hu : X.A.units + 64 < cLine) (c : Cm n d) (c' : Cm m e) (hk : k = true ↔ d = e) (hn : n ≤ 63 := by decide) (hm : m ≤ 63 := by decide) : C2 X .Eq d e (.bl k) := by
  refine c2_eqD hu (c.cmp hn) (c'.cmp hm) ?_
  have h := eqv_iff n m d e c c'
  cases k with
  | true => exact h.mpr (hk.mp rfl)
  | false =>
    cases q : PyData.eqv d.py e.py with
    | false => rfl
    | true => exact absurd (hk.mpr (h.mp q)) (by simp)
theorem c2_neC {n m : Nat} {d e : D} {k : Bool} (hu : X.A.units + 64 < cLine) (c : Cm n d) (c' : Cm m e) (hk : k = true ↔ d = e) (hn : n ≤ 63 := by decide) (hm : m ≤ 63 := by decide) : C2 X .NotEq d e (.bl (!k)) := by
  refine c2_neD hu (c.cmp hn) (c'.cmp hm) ?_
  have h := eqv_iff n m d e c c'
  cases k with
  | true => exact h.mpr (hk.mp rfl)
  | false =>
    cases q : PyData.eqv d.py e.py with
    | false => rfl
    | true => exact absurd (hk.mpr (h.mp q)) (by simp)
def KD (K : PySem.W.Frag) (d : D) (u : Value) : Prop := ∃ v, RelV v u ∧ ∀ H, DR K H d v
def KDs (K : PySem.W.Frag) (ds : List D) (us : List Value) : Prop := ∃ vs, Vals vs us ∧ ∀ H, DRs K H ds vs
theorem kd_int {K : PySem.W.Frag} {i : Int} {t : Tok} : KD K (.int i) (.int i t) := ⟨.int i, ⟨t, rfl⟩, fun _ => rfl⟩
theorem kd_bl {K : PySem.W.Frag} {b : Bool} : KD K (.bl b) (.bool b) := ⟨.bl b, rfl, fun _ => rfl⟩
theorem kd_str {K : PySem.W.Frag} {x : Str} {t : Tok} : KD K (.str x) (.str x t) := ⟨.str x, ⟨t, rfl⟩, fun _ => rfl⟩
theorem kds_nil {K : PySem.W.Frag} : KDs K [] [] := ⟨[], .nil, fun _ => rfl⟩
theorem kds_cons {K : PySem.W.Frag} {d : D} {ds : List D} {u : Value} {us : List Value} (h : KD K d u) (r : KDs K ds us) : KDs K (d :: ds) (u :: us) := by
  obtain ⟨v, h1, h2⟩ := h
  obtain ⟨vs, h3, h4⟩ := r
  exact ⟨v :: vs, .cons h1 h3, fun H => ⟨v, vs, rfl, h2 H, h4 H⟩⟩
theorem kd_tup {K : PySem.W.Frag} {a : Addr} {o : Obj} {ds : List D} {its : Array Value} {n : Nat} (l : K.lookup a = some o) (c : o.cls = .type "tuple") (e : o.data = .seq its n) (z : its.size ≤ sizeLine) (r : KDs K ds its.toList) : KD K (.tup ds) (.ref a) := by
  obtain ⟨vs, h1, h2⟩ := r
  exact ⟨.ref a, rfl, fun H => ⟨a, vs, rfl, .inr ⟨o, its, n, l, c, e, z, h1⟩, h2 H⟩⟩
structure Cst (K : PySem.W.Frag) (mg : Str → Option Value) (x : Str) (d : D) : Prop where
  ex : ∃ u, mg x = some u ∧ KD K d u
theorem ed_const {x : Str} {d : D} {pos : Pos} (h : Cst X.K X.mg x d) (hg : Gl X x) (hd : (x == ("__debug__" : Str)) = false := by decide) : ED X ρ (.Name x pos) d := fun B0 B σ H0 H Q j k => by
  obtain ⟨u, h1, v, h2, h3⟩ := h.ex
  exact RE.of (pe_glob hg h1 h2 hd) (k v H0 H (JH.refl j.same) (h3 H0))
inductive KWs (X : Cx) (ρ : En) : List Keyword → List D → Prop where
  | nil : KWs X ρ [] []
  | cons {nm e p kws d ds} (h : ED X ρ e d) (r : KWs X ρ kws ds) : KWs X ρ (⟨nm, e, p⟩ :: kws) (d :: ds)
def RK (X : Cx) (kws : List Keyword) : TA := fun σ H Q => ∃ t, PK X kws t ∧ t σ H Q
theorem pk_star {kws} : PK X kws (RK X kws) := ⟨fun pos pins s σ H Q I ⟨_, h, q⟩ => h.run pos pins s σ H Q I q⟩
theorem KWs.run {kws : List Keyword} {ds : List D} (h : KWs X ρ kws ds) : ∀ {B0 B : Hp} {σ : L2.St} {H0 H : Hp} {Q : List V → Hp → Prop}, J X.K B0 B σ H0 H ρ → (∀ vs H0' H', JH H0 H H0' H' → DRs X.K H0' ds vs → Q vs H') → RK X kws σ H Q := by
  induction h with
  | nil => exact fun j k => ⟨_, pk_nil, k [] _ _ (JH.refl j.same) rfl⟩
  | cons h r ih =>
    intro B0 B σ H0 H Q j k
    exact ⟨_, pk_cons pe_star pk_star, h B0 B σ H0 H _ j fun v G0 G g1 r1 => ih (j.grow g1) fun vs L0 L g2 r2 => k (v :: vs) L0 L (g1.trans g2) ⟨v, vs, rfl, DR.mono g2.s0 _ _ r1, r2⟩⟩
end
section
variable {X : Cx}
theorem map_int_inj {ns ms : List Int} : ns.map D.int = ms.map D.int ↔ ns = ms := by
  constructor
  · intro h
    exact List.map_inj_right (f := D.int) (fun a b e => by cases e; rfl) |>.mp h
  · rintro rfl; rfl
theorem c2_eqInts {ns ms : List Int} (hu : X.A.units + 64 < cLine) : C2 X .Eq (.tup (ns.map .int)) (.tup (ms.map .int)) (.bl (decide (ns = ms))) :=
  c2_eqC (n := 1) (m := 1) hu (.tup Cm.ints) (.tup Cm.ints) (by simp [map_int_inj])
theorem c2_neInts {ns ms : List Int} (hu : X.A.units + 64 < cLine) : C2 X .NotEq (.tup (ns.map .int)) (.tup (ms.map .int)) (.bl (!decide (ns = ms))) :=
  c2_neC (n := 1) (m := 1) hu (.tup Cm.ints) (.tup Cm.ints) (by simp [map_int_inj])
theorem c2_eqIntsL {ns ms : List Int} (hu : X.A.units + 64 < cLine) : C2 X .Eq (.lst (ns.map .int)) (.lst (ms.map .int)) (.bl (decide (ns = ms))) :=
  c2_eqC (n := 1) (m := 1) hu (.lst Cm.ints) (.lst Cm.ints) (by simp [map_int_inj])
theorem c2_eq2 {a b c d : Int} (hu : X.A.units + 64 < cLine) : C2 X .Eq (.tup [.int a, .int b]) (.tup [.int c, .int d]) (.bl (decide ([a, b] = [c, d]))) := c2_eqInts (ns := [a, b]) (ms := [c, d]) hu
theorem c2_ne2 {a b c d : Int} (hu : X.A.units + 64 < cLine) : C2 X .NotEq (.tup [.int a, .int b]) (.tup [.int c, .int d]) (.bl (!decide ([a, b] = [c, d]))) := c2_neInts (ns := [a, b]) (ms := [c, d]) hu
theorem c2_eq4 {a b c d e f g h : Int} (hu : X.A.units + 64 < cLine) : C2 X .Eq (.tup [.int a, .int b, .int c, .int d]) (.tup [.int e, .int f, .int g, .int h]) (.bl (decide ([a, b, c, d] = [e, f, g, h]))) := c2_eqInts (ns := [a, b, c, d]) (ms := [e, f, g, h]) hu
theorem c2_ne4 {a b c d e f g h : Int} (hu : X.A.units + 64 < cLine) : C2 X .NotEq (.tup [.int a, .int b, .int c, .int d]) (.tup [.int e, .int f, .int g, .int h]) (.bl (!decide ([a, b, c, d] = [e, f, g, h]))) := c2_neInts (ns := [a, b, c, d]) (ms := [e, f, g, h]) hu
end
section
variable {X : Cx} {ρ ρ' : En}
theorem dg_unl {is : List Nat} {es : List Expr} {ds : List D} {k1 : Nat} {n : Nat} {pos : Pos} (hc : X.calm = true) (h : DGs X is es ds ρ ρ') (hl : ds.length = n := by rfl) (hn : (assignEach es X.env).length = n := by rfl) (hst : (assignEach es X.env).findIdx? (·.1) = none := by rfl) :
    DG X is (.Tuple es k1 pos) (.lst ds) ρ ρ' := fun B0 B σ H0 H v Q j r k => by
  obtain ⟨p, vs, rfl, h1, h2⟩ := r
  exact ⟨_, pg_unl hc pgs_star hn hst, p, vs, rfl, j.same.seq h1, by rw [← DRs.length h2]; exact hl, h B0 B σ H0 H vs Q j h2 k⟩
section
variable {elt tg iter : Expr} {ifs : List Expr} {scope : Scope} {ds : List D} {cpos pos : Pos} {α β : Type} {Φ : Out → Prop}
/-- [f x for x in xs], the items of a kind -/
theorem eo_map2 (own : List (Str × Nat)) (xs : List α) (enc : α → D) (g : α → β) (enc2 : β → D) (hc : X.calm = true) (hN : X.N.Nodup) (ok : BlkOk X.N X.env.scope scope own) (hi : ID X ρ tg iter ds) (he : ds = xs.map enc) (turn : ∀ x ∈ xs, Turn1 X ρ scope (own.map (·.2)) tg elt ifs (enc x) (some (enc2 (g x)))) (hl : xs.length ≤ sizeLine)
    (hs : ∀ x, foldedSetIterable iter X.env x = pure x := by intro _; rfl) : EO X ρ (.ListComp elt [⟨tg, iter, ifs, 0⟩] scope cpos) (.lst ((xs.map g).map enc2)) := by
  have h := eo_map (cpos := cpos) own xs enc (fun x => enc2 (g x)) hc hN ok hi he turn hl hs
  rw [List.map_map]; exact h
theorem ws_setMap2 (i : Nat) (own : List (Str × Nat)) (xs : List α) (enc : α → D) (g : α → β) (enc2 : β → D) {y : Str} {py : Pos} (hc : X.calm = true) (hN : X.N.Nodup) (ok : BlkOk X.N X.env.scope scope own) (hi : ID X ρ tg iter ds) (he : ds = xs.map enc) (turn : ∀ x ∈ xs, Turn1 X ρ scope (own.map (·.2)) tg elt ifs (enc x) (some (enc2 (g x)))) (hl : xs.length ≤ sizeLine)
    (hΦ : Φ (.nx (ρ.set i (.ow (.lst ((xs.map g).map enc2)))))) (hy : X.N[i]? = some y := by rfl) (hyl : X.env.scope.names.lookup y = some .local := by rfl)
    (hsw : swapsWith (.ListComp elt [⟨tg, iter, ifs, 0⟩] scope cpos) (some (.Name y py)) pos.line X.env = pure true := by exact sw_true rfl rfl rfl (by decide +kernel)) (hs : ∀ x, foldedSetIterable iter X.env x = pure x := by intro _; rfl) :
    WS X (.Assign [.Name y py] (.ListComp elt [⟨tg, iter, ifs, 0⟩] scope cpos) pos) ρ Φ :=
  ws_setMap i own xs enc (fun x => enc2 (g x)) hc hN ok hi he turn hl (by rw [List.map_map] at hΦ; exact hΦ) hy hyl hsw hs
theorem ws_setFilter2 (i : Nat) (own : List (Str × Nat)) (xs : List α) (enc : α → D) (p : α → Bool) (g : α → β) (enc2 : β → D) {y : Str} {py : Pos} (hc : X.calm = true) (hN : X.N.Nodup) (ok : BlkOk X.N X.env.scope scope own) (hi : ID X ρ tg iter ds) (he : ds = xs.map enc) (turn : ∀ x ∈ xs, Turn1 X ρ scope (own.map (·.2)) tg elt ifs (enc x) (if p x = true then some (enc2 (g x)) else none)) (hl : xs.length ≤ sizeLine)
    (hΦ : Φ (.nx (ρ.set i (.ow (.lst (((xs.filter p).map g).map enc2)))))) (hy : X.N[i]? = some y := by rfl) (hyl : X.env.scope.names.lookup y = some .local := by rfl)
    (hsw : swapsWith (.ListComp elt [⟨tg, iter, ifs, 0⟩] scope cpos) (some (.Name y py)) pos.line X.env = pure true := by exact sw_true rfl rfl rfl (by decide +kernel)) (hs : ∀ x, foldedSetIterable iter X.env x = pure x := by intro _; rfl) :
    WS X (.Assign [.Name y py] (.ListComp elt [⟨tg, iter, ifs, 0⟩] scope cpos) pos) ρ Φ :=
  ws_setFilter i own xs enc p (fun x => enc2 (g x)) hc hN ok hi he turn hl (by rw [List.map_map] at hΦ; exact hΦ) hy hyl hsw hs
end
theorem c2_neSame {n : Nat} {d : D} (hu : X.A.units + 64 < cLine) (c : Cm n d) (hn : n ≤ 63 := by decide) : C2 X .NotEq d d (.bl false) := c2_neC (k := true) hu c c (by simp) hn hn
end
end DL
namespace DL
open PySem
/-- the k-th number of a script, 0 behind its end -/
def cellAt (ns : List Int) (k : Int) : Int := ns.getD k.toNat 0
def mix1 (c k : Int) : Int := (c * 48271 + (k + 1) * 69621) % 2147483647
def mix2 (c k : Int) : Int := (mix1 c k * mix1 c k + mix1 c k * 16807 + k * 7919) % 2147483629
def mix3 (c k : Int) : Int := (mix2 c k * mix2 c k + c + 13 * k) % 2147483587
def drawStep (c : Int) (a : List Int × Int) (k : Nat) : List Int × Int :=
  if 1000000000000000000 ≤ c ∧ 0 < a.2 then (a.1 ++ [a.2 % 4096], a.2 / 4096) else (a.1 ++ [mix3 c k / 7 % 4096], a.2)
def drawn (c : Int) (n : Nat) : List Int × Int := (List.range n).foldl (drawStep c) ([], c)
def draws (c n : Int) : List Int := (drawn c n.toNat).1
theorem drawn_succ (c : Int) (n : Nat) : drawn c (n + 1) = drawStep c (drawn c n) n := by
  unfold drawn; rw [List.range_succ, List.foldl_append]; rfl
theorem draws_spec (c : Int) : ∀ n, (drawn c n).1.length = n ∧ ∀ x ∈ (drawn c n).1, 0 ≤ x ∧ x < 4096
  | 0 => by simp [drawn]
  | n + 1 => by
    obtain ⟨h1, h2⟩ := draws_spec c n
    rw [drawn_succ]
    unfold drawStep
    split
    · refine ⟨by simp [h1], fun x hx => ?_⟩
      simp only [List.mem_append, List.mem_singleton] at hx
      rcases hx with hx | rfl
      · exact h2 x hx
      · omega
    · refine ⟨by simp [h1], fun x hx => ?_⟩
      simp only [List.mem_append, List.mem_singleton] at hx
      rcases hx with hx | rfl
      · exact h2 x hx
      · omega
theorem draws_len (c n : Int) : (draws c n).length = n.toNat := (draws_spec c _).1
/-- the k-th draw -/
def dr (c n k : Int) : Int := (draws c n).getD k.toNat 0
theorem dr_get {c n k : Int} (h0 : 0 ≤ k) (h : k < n) : (draws c n)[k.toNat]? = some (dr c n k) := by
  unfold dr
  have : k.toNat < (draws c n).length := by rw [draws_len]; omega
  simp [this]
theorem dr_lo (c n k : Int) : 0 ≤ dr c n k ∧ dr c n k < 4096 := by
  unfold dr
  rw [List.getD_eq_getElem?_getD]
  cases q : (draws c n)[k.toNat]? with
  | none => simp
  | some x => exact (draws_spec c _).2 _ (List.mem_of_getElem? q)
/-- an item of a list of numbers -/
theorem at_ints {ns : List Int} {i : Int} {k : Nat} {x : Int} (e : i = k) (h : ns[k]? = some x) : L2.atI (ns.map D.int) i = some (.int x) := by
  subst e
  exact L2.atI_nat (by rw [List.getElem?_map, h]; rfl)
theorem at_draws {c n i : Int} (h0 : 0 ≤ i) (h : i < n) : L2.atI ((draws c n).map D.int) i = some (.int (dr c n i)) :=
  at_ints (k := i.toNat) (by omega) (dr_get h0 h)
def tC (t : Int) : Int := if t = 1 then 1 else if t = 3 then -1 else if t = 5 then -1 else if t = 7 then 1 else 0
def tD (t : Int) : Int := if t = 0 then 1 else if t = 2 then -1 else if t = 4 then 1 else if t = 6 then -1 else 0
def ty (t x y : Int) : Int := tC t * x + tD t * y
def ct (f s : Int) : Int := (if 4 ≤ s then s - f else s + f) % 4 + (if ((4 ≤ f) ↔ (4 ≤ s)) then 0 else 4)
def inv (t : Int) : Int := if 4 ≤ t then t else (4 - t) % 4
structure Bx where
  a : Int
  b : Int
  c : Int
  d : Int
  deriving DecidableEq
def Bx.e (x : Bx) : D := .tup [.int x.a, .int x.b, .int x.c, .int x.d]
theorem Bx.inj {x y : Bx} (h : x.e = y.e) : x = y := by
  cases x; cases y
  simp only [Bx.e, D.tup.injEq, List.cons.injEq, D.int.injEq] at h
  simp [h.1, h.2.1, h.2.2.1, h.2.2.2.1]
theorem Bx.cm (x : Bx) : Cm 1 x.e := .tup (Cm.ints (ns := [x.a, x.b, x.c, x.d]))
theorem Bx.cms {bs : List Bx} : ∀ d ∈ bs.map Bx.e, Cm 1 d := fun d hd => by
  obtain ⟨x, _, rfl⟩ := List.mem_map.mp hd
  exact x.cm
end DL
namespace DL
open PySem PySem.Spec PyProof.Rows L2
abbrev Sq := Int × Int
def kq (p : Sq) : List Key := [.inl p.1, .inl p.2]
def dicD (ks : List Sq) : OC := .dt (ks.map kq) ((ks.map fun _ => true).map D.bl)
theorem kq_inj {p q : Sq} : kq p = kq q ↔ p = q := by
  constructor
  · intro h
    simp only [kq, List.cons.injEq, Sum.inl.injEq, and_true] at h
    exact Prod.ext h.1 h.2
  · rintro rfl; rfl
def tT (ks : List Sq) : List (List Key × V) := ks.map fun q => (kq q, V.bl true)
theorem zipT (ks : List Sq) : (ks.map kq).zip ((ks.map fun _ => true).map V.bl) = tT ks := by
  induction ks with
  | nil => rfl
  | cons k ks ih => simp only [List.map_cons, List.zip_cons_cons, ih]; rfl
theorem tT_any (ks : List Sq) (p : Sq) : ((tT ks).any fun kv => decide (kv.1 = kq p)) = decide (p ∈ ks) := by
  induction ks with
  | nil => rfl
  | cons k ks ih =>
    have e : tT (k :: ks) = (kq k, V.bl true) :: tT ks := rfl
    rw [e, List.any_cons, ih, Bool.eq_iff_iff]
    simp only [Bool.or_eq_true, decide_eq_true_eq, List.mem_cons, kq_inj]
    exact or_congr ⟨Eq.symm, Eq.symm⟩ Iff.rfl
theorem tT_val (ks : List Sq) (p : Sq) : (valV (tT ks) (kq p)).isSome = decide (p ∈ ks) := by
  rw [← valV_any, tT_any]
theorem dr_dic {K : PySem.W.Frag} {H0 : Hp} {ks : List Sq} {v : V} (h : DR K H0 (dicD ks).d v) : ∃ a, v = .ref a ∧ Rd H0 a (.dT (tT ks)) := by
  obtain ⟨a, vs, rfl, h1, hl, r⟩ := h
  rw [DRs.bls r, zipT] at h1
  exact ⟨a, rfl, h1⟩
section
variable {X : Cx} {ρ : En} {Φ : Out → Prop} {pos : Pos}
/-- square in d -/
theorem op_inSq (hu : X.A.units + 1 < cLine) : OpR X (compareOp .In) (fun x y H Q => ∃ (a b : Addr) (kvs : List (List Key × V)) (k : List Key), x = .ref b ∧ y = .ref a ∧ Rd H a (.dT kvs) ∧ SqT X.K H b (k.map kV) ∧ Q (.bl (valV kvs k).isSome) H) := by
  rintro pins s σ H x y v u Q I rx ry ⟨a, b, kvs, k, rfl, rfl, h1, h2, q⟩
  cases (show v = Value.ref b from rx); cases (show u = Value.ref a from ry)
  obtain ⟨z, hd, xs, rel, dd⟩ := dt_rd I.hok h1
  obtain ⟨its, r, ⟨o, e, c, n, dat⟩, _⟩ := I.tuple h2
  refine wpAny_in_heap (tupleKind_room_in1 hu) (k := k) ⟨o, its.toArray, n, e, c, dat, by simpa using items_are r⟩ hd dd ?_
  have qq := (rel.val k).isSome_eq
  rw [Option.isSome_map] at qq
  rw [← qq]
  exact ⟨.bl (valV kvs k).isSome, H, I.tok _, rfl, q⟩
theorem c2_inSq {p1 p2 : Int} {ks : List Sq} (hu : X.A.units + 64 < cLine) : C2 X .In (.tup [.int p1, .int p2]) (dicD ks).d (.bl (decide ((p1, p2) ∈ ks))) := ⟨_, op_inSq (by omega), fun H0 H x y Q s r1 r2 kk => by
  obtain ⟨b, vs, rfl, h1, r⟩ := r1
  obtain ⟨v, w, rfl, e1, e2⟩ := r.two
  cases (show v = .int p1 from e1); cases (show w = .int p2 from e2)
  obtain ⟨a, rfl, h2⟩ := dr_dic r2
  exact ⟨a, b, _, kq (p1, p2), rfl, rfl, Same.rd s h2, Same.seqT s h1, kk _ H0 H (JH.refl s) (by rw [tT_val]; rfl)⟩⟩
end
def DWalkJ (K : PySem.W.Frag) (Jt : It) (H0 H : Hp) (ds : List D) : Prop := ∃ G Y, Walk Jt ds.length G Y ∧ (∀ L0 L, JH H0 H L0 L → G L) ∧
  ∀ i L0 L x L' d, ds[i]? = some d → JH H0 H L0 L → Y i L x L' → ∃ L0', JH L0 L L0' L' ∧ DR K L0' d x
section
variable {X : Cx} {ρ ρ' : En} {Φ : Out → Prop} {pos : Pos}
variable {elt tg iter : Expr} {ifs : List Expr} {scope : Scope} {own : List (Str × Nat)} {ds : List D}
theorem lc_readJ {B0 B : Hp} {σ : L2.St} {H0 H : Hp} {Q : VK} (hi : ∀ R, (∀ Jt H0' H', JH H0 H H0' H' → DWalkJ X.K Jt H0' H' ds → R Jt H') → RI X tg iter σ H R) (ys : List (Option D)) (hlen : ys.length = ds.length) (turn : ∀ (i : Nat) d y, ds[i]? = some d → ys[i]? = some y → Turn1 X ρ scope (own.map (·.2)) tg elt ifs d y) (hl : ds.length ≤ sizeLine) (j : J X.K B0 B σ H0 H ρ)
    (k : ∀ a o H0' H', JH H0 H H0' H' → H' a = some o → H0' a = none → H a = none → OCR X.K H0' (.lst (ys.filterMap id)) o → Q (.ref a) H') : TLc X scope own tg elt iter ifs σ H Q := by
  refine hi _ fun Jt G0 G g0 ⟨GG, Y, w, hG, hY⟩ => fun Dn hD => ?_
  have j0 := j.grow g0
  refine lc_it (g := GB X scope tg) (tt := TB X scope ifs) (te := EB X scope elt) (vs := own.map (·.2)) (Qd := fun H => Q (.ref Dn) H) w (fun i H1 => ∃ L0 acc, JH G0 G L0 H1 ∧ H1 Dn = some (.lst acc) ∧ L0 Dn = none ∧ DRs X.K L0 ((ys.take i).filterMap id) acc) ⟨G0, [], JH.own g0.sh hD, upd_same, g0.sh.free hD, rfl⟩ (fun i H1 _ ⟨L0, acc, g1, _⟩ => hG L0 H1 g1) ?_ ?_
  · rintro i x H1 H1' hi ⟨L0, acc, g1, hDn, hD0, racc⟩ hy
    obtain ⟨d, hd⟩ : ∃ d, ds[i]? = some d := ⟨ds[i], by simp [hi]⟩
    obtain ⟨L1, g2, rx⟩ := hY i L0 H1 x H1' d hd g1 hy
    obtain ⟨yo, hyo⟩ : ∃ y, ys[i]? = some y := ⟨ys[i]'(by omega), by simp [show i < ys.length by omega]⟩
    obtain ⟨ρ', hlen', turn⟩ := turn i d yo hd hyo
    have j1 := ((j0.grow g1).grow g2).wipe (own.map (·.2))
    have hacc : acc.length < sizeLine := by
      have h1 := DRs.length racc
      have h2 := filterMap_len id ys i
      omega
    intro s Hs C cl fp
    refine (turn s Hs C cl fp).1 B0 B _ L1 H1' x _ j1 rx fun σ2 j2 off => ⟨wipe_back (by rw [j2.len, hlen', ← wipeE_length ρ (own.map (·.2)), ← j1.len, wipe_length]) off, ?_⟩
    have gg := g1.trans g2
    have hDn' : H1' Dn = some (.lst acc) := g2.sB _ _ hDn
    have hD0' : L1 Dn = none := g2.fr _ _ hDn trivial hD0
    have eT := filterMap_take id ys i yo hyo
    cases yo with
    | none =>
      intro s Hs C cl fp
      have t2 := (turn s Hs C cl fp).2
      refine t2 B0 B σ2 L1 H1' _ j2 fun M0 M g3 => iteF ⟨M0, acc, gg.trans g3, g3.sB _ _ hDn', g3.fr _ _ hDn' trivial hD0', ?_⟩
      rw [eT]
      simpa using DRs.mono (g2.trans g3).s0 _ _ racc
    | some z =>
      intro s Hs C cl fp
      have t2 := (turn s Hs C cl fp).2
      refine t2.1 B0 B σ2 L1 H1' _ j2 fun M0 M g3 => iteT fun s Hs C cl fp => ?_
      have t3 := (turn s Hs C cl fp).2
      refine t3.2 B0 B σ2 M0 M _ (j2.grow g3) fun y N0 N g4 ry => ?_
      have g34 := g3.trans g4
      have h4 : N Dn = some (.lst acc) := g34.sB _ _ hDn'
      have h40 : N0 Dn = none := g34.fr _ _ hDn' trivial hD0'
      have gl := gg.trans g34
      refine ⟨acc, h4, hacc, N0, acc ++ [y], ⟨gl.s0, fun b u e => upd_keep (gl.sh b u e) (ne_of_none e h40), fun b u e => upd_keep (gl.sB b u e) (ne_of_none e hD), gl.fr⟩, upd_same, h40, ?_⟩
      rw [eT]
      exact DRs.app (DRs.mono (g2.trans g34).s0 _ _ racc) (DRs.one ry)
  · rintro H1 ⟨L0, acc, g1, hDn, hD0, racc⟩
    rw [List.take_of_length_le (Nat.le_of_eq hlen)] at racc
    exact k Dn _ L0 H1 (g0.trans g1) hDn hD0 (g0.sB.free hD) ⟨acc, rfl, racc⟩
variable {cpos : Pos}
end
end DL
namespace DL
open PySem PySem.Spec PyProof.Rows L2
section
variable {K : PySem.W.Frag} {B0 B H0 H : Hp} {σ σ1 : L2.St} {ρ ρ1 : En} {a : Addr} {od : Obj} {u : HO}
/-- no slot owns anything -/
def noOw : En → Bool
  | [] => true
  | .ow _ :: _ => false
  | .ox _ _ :: _ => false
  | _ :: r => noOw r
theorem noOw_kind : ∀ {ρ : En}, noOw ρ = true → ∀ (i : Nat) s, ρ[i]? = some s → s = .no ∨ ∃ d, s = .sh d
  | [], _, i, s, h => by simp at h
  | .ow _ :: _, h, i, s, _ => by simp [noOw] at h
  | .ox _ _ :: _, h, i, s, _ => by simp [noOw] at h
  | .no :: r, h, 0, s, e => by simp at e; exact .inl e.symm
  | .sh d :: r, h, 0, s, e => by simp at e; exact .inr ⟨d, e.symm⟩
  | .no :: r, h, i + 1, s, e => noOw_kind (ρ := r) h i s (by simpa using e)
  | .sh _ :: r, h, i + 1, s, e => noOw_kind (ρ := r) h i s (by simpa using e)
end
end DL
namespace DL
open PySem
def sel3 (p q r m : Int) : Int := if m = 0 then p else if m = 1 then q else r
theorem ix_sel3 {p q r m : Int} (h : 0 ≤ m ∧ m < 3) : IX (.lst [.int p, .int q, .int r]) (.int m) (.int (sel3 p q r m)) := by
  have : m = 0 ∨ m = 1 ∨ m = 2 := by omega
  rcases this with rfl | rfl | rfl
  · exact IX.l0
  · exact IX.l1
  · exact IX.l2
end DL
namespace DL
open PySem PySem.Spec PyProof.Rows L2
section
variable {K : PySem.W.Frag} {B0 B H0 H L' H' : Hp} {σ : L2.St} {ρ : En}
theorem J.reseat (j : J K B0 B σ H0 H ρ) (no : noOw ρ = true) (s : Same H0 L') (hp : JH B0 B L' H') : J K B0 B σ L' H' ρ := by
  refine ⟨hp, j.len, fun i sl ov e1 e2 => ?_, j.dis⟩
  have q := j.sl i sl ov e1 e2
  rcases noOw_kind no i sl e1 with rfl | ⟨d, rfl⟩
  · trivial
  · obtain ⟨v, h1, h2⟩ := q; exact ⟨v, h1, DR.mono s _ _ h2⟩
/-- what is owned is forgotten -/
def dropOw : En → En := List.map fun s => match s with | .ow _ => .no | .ox _ d => .sh d | s => s
theorem dropOw_no : ∀ ρ : En, noOw (dropOw ρ) = true
  | [] => rfl
  | .no :: r => dropOw_no r
  | .sh _ :: r => dropOw_no r
  | .ow _ :: r => dropOw_no r
  | .ox _ _ :: r => dropOw_no r
theorem J.dropOw (j : J K B0 B σ H0 H ρ) : J K B0 B σ H0 H (DL.dropOw ρ) := by
  refine ⟨j.hp, by rw [j.len]; simp [DL.dropOw], fun i sl ov e1 e2 => ?_, fun i l s1 s2 o1 o2 a e1 _ _ _ w _ => absurd w (Owns.none (noOw_kind (dropOw_no ρ) i s1 e1) a)⟩
  unfold DL.dropOw at e1
  rw [List.getElem?_map] at e1
  cases q : ρ[i]? with
  | none => rw [q] at e1; cases e1
  | some s =>
    rw [q] at e1
    have r := j.sl i s ov q e2
    cases s with
    | no => cases e1; trivial
    | sh d => cases e1; exact r
    | ow c => cases e1; trivial
    | ox cs d => cases e1; exact r.1
end
theorem flat_take {α β : Type} (r : α → List β) {xs : List α} {i : Nat} {x : α} (h : xs[i]? = some x) : (xs.take (i + 1)).flatMap r = (xs.take i).flatMap r ++ r x := by
  rw [List.take_add_one, h, List.flatMap_append]; simp
theorem flat_room {α β : Type} (r : α → List β) {xs : List α} {i j : Nat} {x : α} (h : xs[i]? = some x) (hj : j < (r x).length) : ((xs.take i).flatMap r).length + j < (xs.flatMap r).length := by
  have e : xs.flatMap r = (xs.take (i + 1)).flatMap r ++ (xs.drop (i + 1)).flatMap r := by rw [← List.flatMap_append, List.take_append_drop]
  rw [e, flat_take r h]
  simp only [List.length_append]; omega
def IB (X : Cx) (scope : Scope) (tg iter : Expr) : TI := fun σ H R => ∀ (s : Shared) (H' : Hp) (C : Addr) (cl : List (Str × Addr)) (fp : List Addr), RI (X.blk s H' scope (compEnvC scope cl C X.env) fp) tg iter σ H R
section
variable {X : Cx} {ρ : En} {elt tg iter tg1 iter1 : Expr} {scope : Scope} {ds : List D} {cpos pos : Pos} {α β : Type}
theorem rts_nil {σ : L2.St} {H : Hp} {Q : Bool → Hp → Prop} (h : Q true H) : RTs X [] σ H Q := ⟨_, pts_nil, h⟩
end
end DL
namespace DL
open PySem PySem.Spec PyProof.Rows L2
section
variable {X : Cx} {ρ ρ' : En}
/-- z[i], z a text -/
theorem ed_ixS {a b : Expr} {z : Str} {i : Int} {c : Nat} {pos : Pos} (ha : ED X ρ a (.str z)) (hb : ED X ρ b (.int i)) (hz : z.length ≤ sizeLine) (h : atI z.cps.toList i = some c) (hs : PlainIx b := by exact fun _ _ => rfl) : ED X ρ (.Subscript a b pos) (.str ⟨#[c]⟩) := fun B0 B σ H0 H Q j kk => by
  refine RE.of (pe_ix ix_str pe_star pe_star hs) (ha B0 B σ H0 H _ j fun x G0 G g1 r1 => hb B0 B σ G0 G _ (j.grow g1) fun y L0 L g2 r2 => ?_)
  exact ⟨z, i, c, r1, r2, hz, h, kk _ L0 L (g1.trans g2) rfl⟩
theorem DG.mono {is is' : List Nat} {tg : Expr} {d : D} (h : DG X is tg d ρ ρ') (hi : ∀ k ∈ is, k ∈ is') : DG X is' tg d ρ ρ' := fun B0 B σ H0 H v Q j r k =>
  h B0 B σ H0 H v Q j r fun σ' j' off => k σ' j' fun m hm => off m fun z => hm (hi m z)
theorem eo_dropOw {e : Expr} {c : OC} (h : EO X (dropOw ρ) e c) : EO X ρ e c := fun B0 B σ H0 H Q j k => h B0 B σ H0 H Q j.dropOw k
end
end DL
namespace DL
open PySem PySem.Spec PyProof.Rows L2
/-- c stands at a, and some slot owns it -/
structure Cell (ρ : En) (a : Addr) (c : OC) : Prop where
  ex : ∃ (i : Nat) (cs : List (Addr × OC)) (d : D), ρ[i]? = some (.ox cs d) ∧ (a, c) ∈ cs
theorem cell_at {ρ : En} {a : Addr} {c : OC} (i : Nat) {cs : List (Addr × OC)} {d : D} (h : ρ[i]? = some (.ox cs d)) (m : (a, c) ∈ cs) : Cell ρ a c := ⟨i, cs, d, h, m⟩
section
variable {K : PySem.W.Frag} {B0 B H0 H : Hp} {σ : L2.St} {ρ : En}
theorem J.at (j : J K B0 B σ H0 H ρ) {a : Addr} {c : OC} (h : Cell ρ a c) : ∃ o, H a = some o ∧ H0 a = none ∧ B a = none ∧ OCR K H0 c o := by
  obtain ⟨i, cs, d, h1, h2⟩ := h.ex
  exact j.cell h1 h2
end
section
variable {X : Cx} {ρ : En} {Φ : Out → Prop} {e a b : Expr} {pos : Pos} {d : D} {rest : List Stmt}
theorem ed_varX (i : Nat) {x : Str} {cs : List (Addr × OC)} (hρ : ρ[i]? = some (.ox cs d)) (hN : X.N[i]? = some x := by rfl) (hv : Vis X.env.scope x := by first | exact Or.inl rfl | exact Or.inr (Or.inl rfl) | exact Or.inr (Or.inr rfl)) (hd : (x == ("__debug__" : Str)) = false := by decide)
    (hcd : (x == ("__classdict__" : Str)) = false := by decide) : ED X ρ (.Name x pos) d := fun B0 B σ H0 H Q j k => by
  obtain ⟨ov, h1, ⟨v, rfl, h2⟩, _⟩ := j.get hρ
  exact RE.of (pe_var hN hv hd hcd) ⟨v, h1, k v H0 H (JH.refl j.same) h2⟩
theorem ws_tell (i : Nat) {c : OC} (hi : ρ[i]? = some (.ow c)) (h : ∀ a, WSs X rest (ρ.set i (.ox [(a, c)] (.ad a))) Φ) : WSs X rest ρ Φ := fun B0 B σ H0 H Dn j k => by
  obtain ⟨a, j'⟩ := j.tell hi
  exact h a B0 B σ H0 H Dn j' k
theorem ws_shareX (i : Nat) {cs : List (Addr × OC)} (hi : ρ[i]? = some (.ox cs d)) (d' : D) (hd : ∀ (K : PySem.W.Frag) (H : Hp) v, (∀ p ∈ cs, DR K H p.2.d (.ref p.1)) → DR K H d v → DR K H d' v) (h : WSs X rest (ρ.set i (.sh d')) Φ) : WSs X rest ρ Φ := fun B0 B σ H0 H Dn j k => by
  obtain ⟨H1, j1, s1, r1⟩ := shareAll j hi
  have hl : i < σ.length := by rw [j.len]; exact (List.getElem?_eq_some_iff.mp hi).1
  obtain ⟨ov, e1, v, e2, r2⟩ := j1.get (i := i) (s := .sh d) (by rw [List.getElem?_set_self (by rw [← j.len]; exact hl)])
  have j2 := j1.setSl (i := i) (s := .sh d') e1 ⟨v, e2, hd _ _ v r1 r2⟩ fun a w => w.elim
  rw [List.set_set] at j2
  exact h B0 B σ H1 H Dn j2 k
/-- the items of a list that stands at a place -/
theorem ed_ixA {p : Addr} {ds : List D} {i : Int} (hc : Cell ρ p (.lst ds)) (ha : ED X ρ a (.ad p)) (hb : ED X ρ b (.int i)) (h : atI ds i = some d) (hs : PlainIx b := by exact fun _ _ => rfl) : ED X ρ (.Subscript a b pos) d := fun B0 B σ H0 H Q j kk => by
  refine RE.of (pe_ix ix_list pe_star pe_star hs) (ha B0 B σ H0 H _ j fun x G0 G g1 r1 => hb B0 B σ G0 G _ (j.grow g1) fun y L0 L g2 r2 => ?_)
  cases (show x = .ref p from r1)
  obtain ⟨o, h1, h2, h3, vs, rfl, r⟩ := ((j.grow g1).grow g2).at hc
  obtain ⟨k, e1, e2, _⟩ := atI_get h
  obtain ⟨v, h3, h4⟩ := DRs.get r e2
  have e4 : atI vs i = some v := by
    unfold atI at h ⊢
    rw [← DRs.length r]
    cases q : ixN ds.length i with
    | none => rw [q] at h; cases h
    | some m =>
      rw [q] at h
      have := (ixN_seq q).1
      rw [e1] at this
      cases this
      exact h3
  exact ⟨p, vs, i, v, rfl, r2, SqL.of h1, e4, kk v L0 L (g1.trans g2) h4⟩
/-- .. that a slot owns -/
theorem ed_ixO (m : Nat) {x : Str} {p1 : Pos} {ds : List D} {i : Int} (hρ : ρ[m]? = some (.ow (.lst ds))) (hb : ED X ρ b (.int i)) (h : atI ds i = some d) (hs : PlainIx b := by exact fun _ _ => rfl) (hN : X.N[m]? = some x := by rfl) (hv : Vis X.env.scope x := by first | exact Or.inl rfl | exact Or.inr (Or.inl rfl) | exact Or.inr (Or.inr rfl)) (hd : (x == ("__debug__" : Str)) = false := by decide)
    (hcd : (x == ("__classdict__" : Str)) = false := by decide) : ED X ρ (.Subscript (.Name x p1) b pos) d := fun B0 B σ H0 H Q j kk => by
  obtain ⟨ov, e0, p, o, rfl, _⟩ := j.get hρ
  refine RE.of (pe_ix ix_list (pe_var hN hv hd hcd) pe_star hs) ⟨_, e0, hb B0 B σ H0 H _ j fun y L0 L g2 r2 => ?_⟩
  obtain ⟨ov', e0', p', o', e3, h1, h2, h3, vs, rfl, r⟩ := (j.grow g2).get hρ
  rw [e0] at e0'; cases e0'; cases e3
  obtain ⟨k, e1, e2, _⟩ := atI_get h
  obtain ⟨v, h3, h4⟩ := DRs.get r e2
  have e4 : atI vs i = some v := by
    unfold atI at h ⊢
    rw [← DRs.length r]
    cases q : ixN ds.length i with
    | none => rw [q] at h; cases h
    | some m =>
      rw [q] at h
      have := (ixN_seq q).1
      rw [e1] at this
      cases this
      exact h3
  exact ⟨p, vs, i, v, rfl, r2, SqL.of h1, e4, kk v L0 L g2 h4⟩
/-- len of a list that stands at a place, or that a slot owns -/
theorem ed_lenA {p1 : Pos} {p : Addr} {ds : List D} (hc : Cell ρ p (.lst ds)) (hg : Gl X "len") (hm : X.mg "len" = none) (ha : ED X ρ a (.ad p)) 
    (he : starEach [a] X.env = (false, eval a X.env) :: starEach [] X.env := by rfl) (hpl : (backTo pos (starEach [] X.env)).any (·.1) = false := by rfl) : ED X ρ (.Call (.Name "len" p1) [a] [] pos) (.int ds.length) := fun B0 B σ H0 H Q j kk => by
  refine RE.of (pe_callB call_len_seq hg hm bb_len pa_star (by decide) (by decide) he hpl) (ad_cons (X := X) ha ad_nil he B0 B σ H0 H _ j fun vs G0 G g r => ?_)
  obtain ⟨x, rfl, r1⟩ := r.one'
  cases (show x = .ref p from r1)
  obtain ⟨o, h1, h2, h3, ys, rfl, r⟩ := (j.grow g).at hc
  exact ⟨p, ys, rfl, .inl (SqL.of h1), by rw [← DRs.length r]; exact kk _ G0 G g rfl⟩
/-- the truth of a list that a slot owns -/
theorem td_truthO (m : Nat) {x : Str} {p1 : Pos} {ds : List D} (hρ : ρ[m]? = some (.ow (.lst ds))) (hN : X.N[m]? = some x := by rfl) (hv : Vis X.env.scope x := by first | exact Or.inl rfl | exact Or.inr (Or.inl rfl) | exact Or.inr (Or.inr rfl)) (hd : (x == ("__debug__" : Str)) = false := by decide)
    (hcd : (x == ("__classdict__" : Str)) = false := by decide) (he : ∀ whole, isTrue (.Name x p1) X.env whole = (do let v ← whole; standAt (Expr.pos (.Name x p1)); holding [v] (truthy v)) := by intro _; rfl) : TD X ρ (.Name x p1) (!ds.isEmpty) := fun B0 B σ H0 H Q j kk => by
  obtain ⟨ov, e0, p, o, rfl, h1, h2, h3, vs, rfl, r⟩ := j.get hρ
  exact RT.of (pt_truth (pe_var hN hv hd hcd) he) ⟨_, e0, _, .inl ⟨vs, SqL.of h1, rfl⟩, by rw [r.emp]; exact kk H0 H (JH.refl j.same)⟩
/-- e[f] = g, e a list at a place -/
theorem ws_lputA (i : Nat) {p : Addr} {cs : List (Addr × OC)} {d0 : D} {ds : List D} {n : Int} {m : Nat} {p2 : Pos} (hi : ρ[i]? = some (.ox cs d0)) (hm : (p, OC.lst ds) ∈ cs) (ha : ED X ρ a (.ad p)) (hb : ED X ρ b (.int n)) (he : ED X ρ e d) (hn : ixN ds.length n = some m) (hΦ : Φ (.nx (ρ.set i (.ox (putC cs p (.lst (ds.set m d))) d0))))
    (hs : swapsWithSole [.Subscript a b p2] e pos.line X.env = pure false := by rfl) (hw : swappedStores [.Subscript a b p2] e X.env = pure none := by rfl) (h1 : (assignEach [.Subscript a b p2] X.env).map (·.2) = [assign (.Subscript a b p2) X.env] := by rfl)
    (hx : ∀ v, assign (.Subscript a b p2) X.env v = (do
      let ov ← holding [v] (eval a X.env)
      let iv ← holding [v, ov] (eval b X.env)
      standAt p2
      holding [v, ov, iv] (setItem ov iv v)
      release [v, ov, iv] []) := by intro _; rfl) : WS X (.Assign [.Subscript a b p2] e pos) ρ Φ := fun B0 B σ H0 H Dn j k => by
  refine ⟨_, ps_asg pe_star (pg_sub pe_star pe_star set_list hx) hs hw h1, he B0 B σ H0 H _ j fun v G0 G g1 r1 => ha B0 B σ G0 G _ (j.grow g1) fun x L0 L g2 r2 => hb B0 B σ L0 L _ ((j.grow g1).grow g2) fun y M0 M g3 r3 => ?_⟩
  cases (show x = .ref p from r2); cases (show y = .int n from r3)
  have j1 := ((j.grow g1).grow g2).grow g3
  obtain ⟨o', h1', h2', h3', vs', rfl, r'⟩ := j1.cell hi hm
  exact ⟨p, vs', n, m, rfl, rfl, h1', by rw [← DRs.length r']; exact hn, k _ hΦ _ M0 _ (j1.put hi hm ⟨_, rfl, DRs.set (DR.mono (g2.trans g3).s0 _ _ r1) m r'⟩)⟩
/-- x[f] = g, x a list of the def's own -/
theorem ws_lputO (i : Nat) {x : Str} {ds : List D} {n : Int} {m : Nat} {p1 p2 : Pos} (hi : ρ[i]? = some (.ow (.lst ds))) (hb : ED X ρ b (.int n)) (he : ED X ρ e d) (hn : ixN ds.length n = some m) (hΦ : Φ (.nx (ρ.set i (.ow (.lst (ds.set m d))))))
    (hs : swapsWithSole [.Subscript (.Name x p1) b p2] e pos.line X.env = pure false := by rfl) (hw : swappedStores [.Subscript (.Name x p1) b p2] e X.env = pure none := by rfl) (h1 : (assignEach [.Subscript (.Name x p1) b p2] X.env).map (·.2) = [assign (.Subscript (.Name x p1) b p2) X.env] := by rfl)
    (hx : ∀ v, assign (.Subscript (.Name x p1) b p2) X.env v = (do
      let ov ← holding [v] (eval (.Name x p1) X.env)
      let iv ← holding [v, ov] (eval b X.env)
      standAt p2
      holding [v, ov, iv] (setItem ov iv v)
      release [v, ov, iv] []) := by intro _; rfl)
    (hN : X.N[i]? = some x := by rfl) (hv : Vis X.env.scope x := by first | exact Or.inl rfl | exact Or.inr (Or.inl rfl) | exact Or.inr (Or.inr rfl)) (hd : (x == ("__debug__" : Str)) = false := by decide)
    (hcd : (x == ("__classdict__" : Str)) = false := by decide) : WS X (.Assign [.Subscript (.Name x p1) b p2] e pos) ρ Φ := fun B0 B σ H0 H Dn j k => by
  refine ⟨_, ps_asg pe_star (pg_sub (pe_var hN hv hd hcd) pe_star set_list hx) hs hw h1, he B0 B σ H0 H _ j fun v G0 G g1 r1 => ?_⟩
  obtain ⟨ov, e0, p, o, rfl, _⟩ := j.get hi
  refine ⟨_, e0, hb B0 B σ G0 G _ (j.grow g1) fun y M0 M g3 r3 => ?_⟩
  cases (show y = .int n from r3)
  have j1 := (j.grow g1).grow g3
  obtain ⟨ov', e0', p', o', e3, h1', h2', h3', vs', rfl, r'⟩ := j1.get hi
  rw [e0] at e0'; cases e0'; cases e3
  exact ⟨p, vs', n, m, rfl, rfl, h1', by rw [← DRs.length r']; exact hn, k _ hΦ _ M0 _ (j1.write hi e0 ⟨_, rfl, DRs.set (DR.mono g3.s0 _ _ r1) m r'⟩)⟩
end
theorem valV_zip {κ : Type} [DecidableEq κ] : ∀ {ks : List κ} {vs : List V} {k : κ}, ks.length = vs.length → (∃ m : Nat, ks[m]? = some k ∧ ∃ v, vs[m]? = some v ∧ valV (ks.zip vs) k = some v) ∨ (k ∉ ks ∧ valV (ks.zip vs) k = none)
  | [], [], k, _ => .inr ⟨by simp, rfl⟩
  | [], _ :: _, _, h => by simp at h
  | _ :: _, [], _, h => by simp at h
  | k0 :: ks, v0 :: vs, k, h => by
    by_cases e : k0 = k
    · subst e
      exact .inl ⟨0, rfl, v0, rfl, by simp [valV]⟩
    · have ev : valV ((k0 :: ks).zip (v0 :: vs)) k = valV (ks.zip vs) k := by
        simp only [List.zip_cons_cons, valV, List.find?_cons]
        rw [decide_eq_false e]
      rw [ev]
      rcases valV_zip (ks := ks) (vs := vs) (k := k) (by simpa using h) with ⟨m, h1, v, h2, h3⟩ | ⟨h1, h2⟩
      · exact .inl ⟨m + 1, by simpa using h1, v, by simpa using h2, h3⟩
      · exact .inr ⟨by simp [h1, Ne.symm e], h2⟩
theorem putK_zip {κ : Type} [DecidableEq κ] {ks : List κ} {vs : List V} {k : κ} {v : V} (hl : ks.length = vs.length) (h : k ∉ ks) : putK (ks.zip vs) k v = (ks ++ [k]).zip (vs ++ [v]) := by
  unfold putK
  have e : ((ks.zip vs).any fun kv => decide (kv.1 = k)) = false := by
    rw [List.any_eq_false]
    rintro ⟨k', v'⟩ hm
    have := (List.of_mem_zip hm).1
    simp only [decide_eq_true_eq]
    rintro rfl
    exact h this
  rw [e, if_neg (by simp), List.zip_append hl]; rfl
end DL
namespace DL
abbrev Seg (α : Type) := Int × Int × α
section
variable {α : Type} [DecidableEq α] {e : α}
def segVal (e : α) : List (Seg α) → Int → α
  | [], _ => e
  | s :: t, y => if s.1 ≤ y ∧ y < s.2.1 then s.2.2 else segVal e t y
/-- one behind the other, not to be made one -/
def link (s s' : Seg α) : Prop := s.2.1 ≤ s'.1 ∧ (s.2.1 = s'.1 → s.2.2 ≠ s'.2.2)
def okS (e : α) (s : Seg α) : Prop := s.1 < s.2.1 ∧ s.2.2 ≠ e
inductive Can (e : α) : List (Seg α) → Prop where
  | nil : Can e []
  | one {s} (h : okS e s) : Can e [s]
  | cons {s s' t} (h : okS e s) (hl : link s s') (ht : Can e (s' :: t)) : Can e (s :: s' :: t)
theorem Can.head {s : Seg α} {t : List (Seg α)} (h : Can e (s :: t)) : okS e s := by
  cases h with
  | one h => exact h
  | cons h _ _ => exact h
theorem Can.tail {s : Seg α} {t : List (Seg α)} (h : Can e (s :: t)) : Can e t := by
  cases h with
  | one h => exact .nil
  | cons _ _ h => exact h
theorem Can.lo {s : Seg α} {t : List (Seg α)} (h : Can e (s :: t)) : ∀ p ∈ s :: t, s.1 ≤ p.1 := by
  induction t generalizing s with
  | nil => intro p hp; simp at hp; subst hp; exact Int.le_refl _
  | cons s' t ih =>
    intro p hp
    cases h with
    | cons h hl ht =>
      rcases List.mem_cons.mp hp with rfl | hp
      · exact Int.le_refl _
      · have h1 := ih ht p hp
        have h2 := hl.1
        have h3 := h.1
        omega
theorem Can.ok {l : List (Seg α)} (h : Can e l) : ∀ p ∈ l, okS e p := by
  induction l with
  | nil => intro p hp; simp at hp
  | cons s t ih =>
    intro p hp
    rcases List.mem_cons.mp hp with rfl | hp
    · exact h.head
    · exact ih h.tail p hp
end
end DL
namespace DL
abbrev Asc (es : List Int) : Prop := es.Pairwise (· < ·)
def par (es : List Int) : Bool := decide (es.length % 2 = 1)
structure EOk (es : List Int) : Prop where
  asc : Asc es
  even : es.length % 2 = 0
theorem EOk.par {es : List Int} (h : EOk es) : par es = false := by
  unfold DL.par
  rw [decide_eq_false]
  have := h.even
  omega
theorem eok_nil : EOk [] := ⟨List.Pairwise.nil, rfl⟩
end DL
namespace DL
open PySem PySem.Spec PyProof.Rows L2
theorem perm_srt_eq {α : Type} {r : α → α → Prop} (as : ∀ a b, r a b → r b a → a = b) : ∀ {l m : List α}, l.Perm m → l.Pairwise r → m.Pairwise r → l = m
  | [], m, p, _, _ => (List.Perm.eq_nil p.symm).symm
  | x :: l, [], p, _, _ => absurd p.length_eq (by simp)
  | x :: l, y :: m, p, hl, hm => by
    have e : x = y := by
      rcases List.mem_cons.mp (p.mem_iff.mp List.mem_cons_self) with e | hx
      · exact e
      · rcases List.mem_cons.mp (p.mem_iff.mpr List.mem_cons_self) with e | hy
        · exact e.symm
        · exact as _ _ ((List.pairwise_cons.mp hl).1 _ hy) ((List.pairwise_cons.mp hm).1 _ hx)
    subst e
    rw [perm_srt_eq as p.cons_inv (List.pairwise_cons.mp hl).2 (List.pairwise_cons.mp hm).2]
def srtI (ns : List Int) : List Int := ns.mergeSort (fun a b => decide (a ≤ b))
theorem srtI_perm (ns : List Int) : (srtI ns).Perm ns := List.mergeSort_perm _ _
theorem srtI_srt (ns : List Int) : (srtI ns).Pairwise (· ≤ ·) := by
  have h := List.pairwise_mergeSort (le := fun a b : Int => decide (a ≤ b)) (fun a b c h1 h2 => by simp at *; omega) (fun a b => by simp; omega) ns
  exact h.imp fun h => by simpa using h
theorem srtI_eq {ns ms : List Int} (p : ms.Perm ns) (h : ms.Pairwise (· ≤ ·)) : ms = srtI ns :=
  perm_srt_eq (fun a b h1 h2 => by omega) (p.trans (srtI_perm ns).symm) h (srtI_srt ns)
def LeQ (a b : Sq) : Prop := a.1 < b.1 ∨ (a.1 = b.1 ∧ a.2 ≤ b.2)
instance (a b : Sq) : Decidable (LeQ a b) := by unfold LeQ; infer_instance
/-- v stands for the square q -/
theorem isPair_fun {h : Heap} {v : Value} {x y x' y' : Int} (p : Srt.IsPair h v x y) (q : Srt.IsPair h v x' y') : x = x' ∧ y = y' := by
  obtain ⟨a, o, t, u, n, e, ho, hc, hd⟩ := p
  obtain ⟨a', o', t', u', n', e', ho', hc', hd'⟩ := q
  rw [e] at e'; cases e'
  rw [ho] at ho'; cases ho'
  rw [hd] at hd'
  injection hd' with h1 h2
  have h3 := congrArg Array.toList h1
  simp at h3
  exact ⟨h3.1.1, h3.2.1⟩
open Classical in
noncomputable def pairOf (h : Heap) (v : Value) : Sq := if p : ∃ q : Sq, Srt.IsPair h v q.1 q.2 then p.choose else (0, 0)
theorem pairOf_eq {h : Heap} {v : Value} {q : Sq} (p : Srt.IsPair h v q.1 q.2) : pairOf h v = q := by
  have hp : ∃ q : Sq, Srt.IsPair h v q.1 q.2 := ⟨q, p⟩
  unfold pairOf
  rw [dif_pos hp]
  have := isPair_fun hp.choose_spec p
  exact Prod.ext this.1 this.2
inductive All2 {α β : Type} (r : α → β → Prop) : List α → List β → Prop where
  | nil : All2 r [] []
  | cons {a b as bs} (h : r a b) (t : All2 r as bs) : All2 r (a :: as) (b :: bs)
theorem All2.len {α β : Type} {r : α → β → Prop} {as : List α} {bs : List β} (h : All2 r as bs) : as.length = bs.length := by
  induction h with
  | nil => rfl
  | cons _ _ ih => simp [ih]
theorem All2.imp {α β : Type} {r q : α → β → Prop} {as : List α} {bs : List β} (h : All2 r as bs) (i : ∀ a b, r a b → q a b) : All2 q as bs := by
  induction h with
  | nil => exact .nil
  | cons h _ ih => exact .cons (i _ _ h) ih
theorem All2.get {α β : Type} {r : α → β → Prop} : ∀ {as : List α} {bs : List β} {j : Nat} {a : α} {b : β}, All2 r as bs → as[j]? = some a → bs[j]? = some b → r a b
  | _, _, j, _, _, .nil, h, _ => by simp at h
  | _, _, 0, _, _, .cons h t, h1, h2 => by simp at h1 h2; subst h1 h2; exact h
  | _, _, j + 1, _, _, .cons h t, h1, h2 => All2.get (j := j) t (by simpa using h1) (by simpa using h2)
theorem pairs_of {h : Heap} {vs : List Value} {ks : List Sq} (a : All2 (fun v q => Srt.IsPair h v q.1 q.2) vs ks) : vs.map (pairOf h) = ks ∧ ∀ v ∈ vs, Srt.IsPair h v (pairOf h v).1 (pairOf h v).2 := by
  induction a with
  | nil => exact ⟨rfl, by simp⟩
  | cons h t ih =>
    have e := pairOf_eq h
    refine ⟨by rw [List.map_cons, e, ih.1], fun v hv => ?_⟩
    rcases List.mem_cons.mp hv with rfl | hv
    · rw [e]; exact h
    · exact ih.2 v hv
section
variable {X : Cx}
theorem bo_sortedI {ns : List Int} : BO X (.builtin "sorted") [.lst (ns.map D.int)] (.lst ((srtI ns).map D.int)) := ⟨_, cr_sortedI, fun H0 H vs Q s r k => by
  obtain ⟨x, rfl, a, ys, rfl, h1, h2⟩ := r.one'
  rw [DRs.ints h2] at h1
  refine ⟨a, ns, rfl, s.seq h1, fun zs p hz1 hz2 hp => ?_⟩
  rw [srtI_eq hz1 hz2]
  exact k p _ _ _ (JH.own s hp) upd_same (s.free hp) hp ⟨_, rfl, DRs.ofInts _⟩⟩
end
end DL
namespace DL
abbrev Row := Seg (List Int)
structure ROk (R : List Row) : Prop where
  can : Can [] R
  ed : ∀ p ∈ R, EOk p.2.2
def rowAt (R : List Row) (y : Int) : List Int := segVal [] R y
theorem segVal_mem {α : Type} {e : α} : ∀ {l : List (Seg α)} {y : Int}, segVal e l y = e ∨ ∃ p ∈ l, p.1 ≤ y ∧ y < p.2.1 ∧ p.2.2 = segVal e l y
  | [], y => .inl rfl
  | s :: t, y => by
    unfold segVal
    by_cases h : s.1 ≤ y ∧ y < s.2.1
    · rw [if_pos h]; exact .inr ⟨s, List.mem_cons_self, h.1, h.2, rfl⟩
    · rw [if_neg h]
      rcases segVal_mem (e := e) (l := t) (y := y) with h | ⟨p, h1, h2⟩
      · exact .inl h
      · exact .inr ⟨p, List.mem_cons_of_mem _ h1, h2⟩
theorem ROk.row {R : List Row} (h : ROk R) (y : Int) : EOk (rowAt R y) := by
  rcases segVal_mem (e := ([] : List Int)) (l := R) (y := y) with e | ⟨p, h1, _, _, e⟩
  · unfold rowAt; rw [e]; exact eok_nil
  · unfold rowAt; rw [← e]; exact h.ed p h1
def insU (x : Int) : List Int → List Int
  | [] => [x]
  | c :: t => if x < c then x :: c :: t else if x = c then c :: t else c :: insU x t
def srtU (l : List Int) : List Int := l.foldr insU []
theorem mem_insU {x y : Int} : ∀ {l : List Int}, y ∈ insU x l ↔ y = x ∨ y ∈ l
  | [] => by simp [insU]
  | c :: t => by
    unfold insU
    split
    · simp
    · split
      · rename_i h; subst h; simp
      · simp [mem_insU (l := t)]
        constructor
        · rintro (h | h | h) <;> simp [h]
        · rintro (h | h | h) <;> simp [h]
theorem asc_insU {x : Int} : ∀ {l : List Int}, Asc l → Asc (insU x l)
  | [], _ => by simp [insU]
  | c :: t, h => by
    have hp := List.pairwise_cons.mp h
    unfold insU
    split
    · rename_i q
      refine List.pairwise_cons.mpr ⟨fun d hd => ?_, h⟩
      rcases List.mem_cons.mp hd with rfl | hd
      · exact q
      · have := hp.1 d hd; omega
    · split
      · exact h
      · refine List.pairwise_cons.mpr ⟨fun d hd => ?_, asc_insU hp.2⟩
        rcases mem_insU.mp hd with rfl | hd
        · omega
        · exact hp.1 d hd
theorem mem_srtU {y : Int} {l : List Int} : y ∈ srtU l ↔ y ∈ l := by
  induction l with
  | nil => simp [srtU]
  | cons c t ih =>
    show y ∈ insU c (srtU t) ↔ _
    rw [mem_insU, ih, List.mem_cons]
theorem asc_srtU (l : List Int) : Asc (srtU l) := by
  induction l with
  | nil => exact List.Pairwise.nil
  | cons c t ih => exact asc_insU ih
theorem asc_ext : ∀ {l m : List Int}, Asc l → Asc m → (∀ y, y ∈ l ↔ y ∈ m) → l = m
  | [], [], _, _, _ => rfl
  | [], c :: t, _, _, h => absurd ((h c).mpr (by simp)) (by simp)
  | c :: t, [], _, _, h => absurd ((h c).mp (by simp)) (by simp)
  | c :: t, c' :: t', h, h', e => by
    have hp := List.pairwise_cons.mp h
    have hp' := List.pairwise_cons.mp h'
    have e1 : c = c' := by
      have a1 := (e c).mp (by simp)
      have a2 := (e c').mpr (by simp)
      rcases List.mem_cons.mp a1 with q | q
      · exact q
      · rcases List.mem_cons.mp a2 with q' | q'
        · exact q'.symm
        · have := hp.1 _ q'; have := hp'.1 _ q; omega
    subst e1
    rw [asc_ext hp.2 hp'.2 fun y => ?_]
    constructor
    · intro hy
      rcases List.mem_cons.mp ((e y).mp (by simp [hy])) with q | q
      · subst q; have := hp.1 _ hy; omega
      · exact q
    · intro hy
      rcases List.mem_cons.mp ((e y).mpr (by simp [hy])) with q | q
      · subst q; have := hp'.1 _ hy; omega
      · exact q
end DL
namespace DL
open PySem PySem.Spec PyProof.Rows L2
section
variable {X : Cx} {ρ : En} {Φ : Out → Prop} {e a b : Expr} {pos : Pos} {d : D} {rest : List Stmt}
/-- for x in xs: the slots by the turn, by something that is there (g) and by what one doesn't care for (u) -/
theorem ws_forX {α U γ : Type} {tg iter : Expr} {ds : List D} (xs : List α) (enc : α → D) {body : List Stmt} (hc : X.calm = true) (hi : ID X ρ tg iter ds) (he : ds = xs.map enc) (G : Nat → γ → U → List (Nat × Sl)) (V : En → U) (P : Nat → γ → Prop) (g0 : γ) (hρ : upds ρ (G 0 g0 (V ρ)) = ρ) (h0 : P 0 g0)
    (hs : ∀ i x g u, xs[i]? = some x → P i g → ∃ is ρ'', DG X is tg (enc x) (upds ρ (G i g u)) ρ'' ∧ WSs X body ρ'' (fun o => match o with | .nx r => ∃ g', upds ρ (G (i + 1) g' (V r)) = r ∧ P (i + 1) g' | .ct r => ∃ g', upds ρ (G (i + 1) g' (V r)) = r ∧ P (i + 1) g' | .bk r => Φ (.nx r) | .rt v => Φ (.rt v) | .ro c => Φ (.ro c) | .rc v cs => Φ (.rc v cs)))
    (hd : ∀ g u, P xs.length g → Φ (.nx (upds ρ (G xs.length g u))))
    (hp : PassesOwn (model X.prog X.w) X.A X.env X.xe := by exact PassesOwn.never) (hf : ∀ x, foldedSetIterable iter X.env x = pure x := by intro _; rfl) : WS X (.For tg iter body [] pos) ρ Φ := by
  refine ws_forT xs enc hc hi he (fun i r => ∃ g, (∃ u, upds ρ (G i g u) = r) ∧ P i g) ⟨g0, ⟨V ρ, hρ⟩, h0⟩ (fun i x r hx hI => ?_) (fun r hI => ?_) hp hf
  · obtain ⟨g, ⟨u, rfl⟩, p⟩ := hI
    obtain ⟨is, r2, h1, h2⟩ := hs i x g u hx p
    refine ⟨is, r2, h1, ws_mono h2 fun o ho => ?_⟩
    cases o with
    | nx r => obtain ⟨g', e1, e2⟩ := ho; exact ⟨g', ⟨_, e1⟩, e2⟩
    | ct r => obtain ⟨g', e1, e2⟩ := ho; exact ⟨g', ⟨_, e1⟩, e2⟩
    | bk r => exact ho
    | rt v => exact ho
    | ro c => exact ho
    | rc v cs => exact ho
  · obtain ⟨g, ⟨u, rfl⟩, p⟩ := hI
    exact hd g u p
end
end DL
namespace DL
open PySem PySem.Spec PyProof.Rows L2
/-- a set just made -/
abbrev nSet (w : World) : Obj := { cls := .type "set", dict := none, data := .set #[] 0 (.fresh 0 0 (!w.params.followText "set-order")) }
section
variable {P : Program} {w : World} {A : Around} {E : Value → Shared → Prop} {s : Shared}
theorem set_of_list {p : Addr} {its : Array Value} (ks : List Int) {Q : Value → Shared → Prop} (quiet : A.handled = none) (isl : s.heap.IsList p its) (hks : IntsAre its.toList ks) (few : ks.length + 1 < scanBound)
    (fin : ∀ (g : Heap) (tk m : Nat), SetR w g s.heap.objs.size (fun j => decide (j ∈ ks)) m → m ≤ ks.length → (∀ b o, s.heap.get? b = some o → g.get? b = some o) → Q (.ref s.heap.objs.size) { s with heap := g, toks := tk }) : wpAny (model P w) A (call (.type "set") [.ref p]) Q E s := by
  have size : its.size = ks.length := by rw [← IntsAre.length hks, Array.length_toList]
  have f1 := F.called_set.made
  have f2 := F.called_set.sub
  have f3 := F.called_set.notType
  have f4 := F.called_set.canCreate
  have f5 := F.typeCall_set_1 (.ref p)
  obtain ⟨_, _, f6⟩ := F.called_set.mro
  refine wpAny_call (codeAny_of_tree (?_ : wpAny _ _ (callAny (.type "set") _) _ _ _))
  refine wpAny_pure ⟨Code.quiet_builtin _ (by decide +kernel), codeAny_builtin F.entry_type_call ?_⟩
  rw [Around.under_plain (weight_type_call_type "set" [.ref p] []) rfl]
  repeat (any_goals (first | assumption | wp_step))
  refine codeAny_mono (code_set_led1 (.ref p) (E := E) (Q₁ := fun v t => v = .ref s.heap.objs.size ∧ t = { s with heap := s.heap.push (nSet w) }) ⟨rfl, rfl⟩) fun r1 t1 e1 => ?_
  rcases r1 with r1 | r1
  · exact e1
  cases r1 with
  | ret v =>
    obtain ⟨rfl, rfl⟩ := e1
    have at0 : (s.heap.push (nSet w)).get? s.heap.objs.size = some (nSet w) := Heap.get?_push_size _ rfl
    have ty : Shared.TypeIs { s with heap := s.heap.push (nSet w) } (.ref s.heap.objs.size) "set" := ⟨_, at0, rfl⟩
    have f7 := F.called_set.init.lookup
    have f8 := F.called_set.init.bind (.ref s.heap.objs.size)
    repeat (any_goals (first | assumption | wp_step))
    refine codeAny_mono (codeAny_call_builtin (R := wants (fun v t => v = .none ∧ ∃ g tk m, t = { s with heap := g, toks := tk } ∧ SetR w g s.heap.objs.size (fun j => decide (j ∈ ks)) m ∧ m ≤ ks.length ∧ ∀ b o, s.heap.get? b = some o → g.get? b = some o) E) F.called_set.init.plain F.entry_set_init (check_set_init_1 ty ?_)) fun r2 t2 e2 => ?_
    · obtain ⟨⟨c0, d0, dat, sl⟩, ho, hc, n0, hd⟩ := isl
      simp only at hc hd
      subst hc hd
      have there : (s.heap.push (nSet w)).get? p = some { cls := .type "list", dict := d0, data := .seq its n0, slots := sl } := Heap.get?_push_of_some _ ho
      have g1 := F.sub_list_set
      have g2 := F.sub_list_frozenset
      have g3 : (Value.type "list" == Value.type "dict") = false := by decide
      have isl2 : (s.heap.push (nSet w)).IsList p its := ⟨_, there, rfl, n0, rfl⟩
      unfold Builtin.«set.__init__» noKeywords Builtin.Frozenset.updateFrom
      generalize hI : pyIter = IT
      wp_walk
      subst hI
      refine wpAny_pyIter_list isl2 (wpAny_bind (wpAny_runValue ?_))
      have old : p < s.heap.objs.size := Heap.lt_size ho
      have it0 : (s.heap.push (nSet w)).objs.size = s.heap.objs.size + 1 := Heap.size_push ..
      have quiet3 : A.in1.in1.in1.handled = none := by simp [quiet]
      have apart : p ≠ (s.heap.push (nSet w)).objs.size := fun e => Nat.ne_of_lt (Nat.lt_succ_of_lt old) (e.trans it0)
      have outside : s.heap.objs.size ∉ [(s.heap.push (nSet w)).objs.size, p] := by
        intro z
        simp only [List.mem_cons, List.not_mem_nil, or_false] at z
        rcases z with z | z
        · exact Nat.ne_of_lt (Nat.lt_succ_self _) (z.trans it0)
        · exact Nat.ne_of_gt old z
      refine set_update_ints ((Walks.list quiet3 _ p apart its).toS) s.heap.objs.size outside ks size few (fun i v hv => ?_) (its.size - 0) 0 _ (by omega) (Nat.zero_le _) ⟨⟨_, Heap.get?_push_size _ rfl, rfl, rfl⟩, isl2.push _⟩ ⟨0, Nat.le_refl 0, setR_new_at (Heap.get?_push_of_some _ at0)⟩ fun t3 m mv mle fin3 => ?_
      · have hi : i < ks.length := by rw [← size]; exact (Array.getElem?_eq_some_iff.mp hv).1
        obtain ⟨tk, e⟩ := IntsAre.int_at hks i v (by rw [Array.getElem?_toList]; exact hv)
        exact ⟨ks[i], tk, List.getElem?_eq_getElem hi, by rw [e, List.getD_eq_getElem?_getD, List.getElem?_eq_getElem hi]; rfl⟩
      · obtain ⟨g, gs, dr, tk, os⟩ := t3
        obtain rfl : gs = s.gens := mv.gens
        obtain rfl : dr = s.drawn := mv.drawn
        obtain rfl : os = s.os := mv.os
        show wpAny _ _ _ _ _ _
        refine wpAny_pure (?_ : wpAny _ _ (ret Value.none) _ _ _)
        rw [size] at mle
        refine wpAny_pure ⟨rfl, g, tk, m, rfl, fin3, mle, fun b o e => mv.heap b o (fun z => ?_) (Heap.get?_push_of_some _ (Heap.get?_push_of_some _ e))⟩
        have hb := Heap.lt_size e
        simp only [List.mem_cons, List.not_mem_nil, or_false] at z
        rcases z with z | z
        · exact Nat.ne_of_lt hb z
        · exact Nat.ne_of_lt (Nat.lt_succ_of_lt hb) (z.trans it0)
    · rcases r2 with r2 | r2
      · exact e2
      cases r2 with
      | ret v =>
        obtain ⟨rfl, g, tk, m, rfl, h1, h2, h3⟩ := e2
        repeat (any_goals (first | assumption | wp_step))
        exact fin _ _ _ h1 h2 h3
      | _ => exact e2.elim
  | _ => exact e1.elim
end
end DL
namespace DL
open PySem PySem.Spec PyProof.Rows L2
open PySem.W (EachIs AllAlike Sortable KeepsBut SortsAt KeyedOut dataLe dataKind alike)
theorem each_all2 {α β : Type} {R : α → β → Prop} : ∀ {as : List α} {bs : List β}, All2 R as bs → EachIs R as bs
  | _, _, .nil => .nil
  | _, _, .cons h t => .cons h (each_all2 t)
/-- a value that stands for data -/
def VD (K : PySem.W.Frag) (H : Hp) (u : Value) (d : D) : Prop := ∃ v, RelV v u ∧ DR K H d v
theorem vd_to {K : PySem.W.Frag} {H : Hp} : ∀ {ds : List D} {us : List Value}, All2 (VD K H) us ds → ∃ vs, Vals vs us ∧ DRs K H ds vs
  | _, _, .nil => ⟨[], .nil, rfl⟩
  | _, _, .cons ⟨v, r1, h1⟩ t => by
    obtain ⟨vs, r2, h2⟩ := vd_to t
    exact ⟨v :: vs, .cons r1 r2, v, vs, rfl, h1, h2⟩
section
variable {X : Cx} {pins : List (Addr × Obj)} {σ : L2.St} {H : Hp} {s : Shared} {β : Type} {bs : List β} {enc kd : β → D} {R : List D → D → Prop} {k : Nat} {f : Addr}
noncomputable def srtK (kd : β → D) (bs : List β) : List β := bs.mergeSort (dataLe false fun b => (kd b).py)
theorem srtK_perm (kd : β → D) (bs : List β) : (srtK kd bs).Perm bs := List.mergeSort_perm _ _
/-- keys that can be compared -/
structure KeyOk (A : Around) (kd : β → D) (bs : List β) : Prop where
  plain : ∀ b ∈ bs, (kd b).plain = true
  alike : AllAlike (bs.map fun b => (kd b).py)
  sort : Sortable (bs.map fun b => (kd b).py)
  deep : ∀ b ∈ bs, A.units + 1 + 1 + (kd b).py.depth < cLine
theorem reads_vd (I : Inv X pins σ H s) {H0 : Hp} (s0 : Same H0 H) {u : Value} {d : D} (p : d.plain = true) (h : VD X.K H0 u d) : ∃ as, Reads s.heap u d.py as := by
  obtain ⟨v, r, h⟩ := h
  exact Dp.reads I d.py v u (DR.dp _ _ p (DR.mono s0 _ _ h)) r
variable {ρ : En}
/-- a list or a tuple -/
inductive SeqD : D → List D → Prop where
  | lst (ds) : SeqD (.lst ds) ds
  | tup (ds) : SeqD (.tup ds) ds
theorem id_seq {tg e : Expr} {d : D} {ds : List D} (h : SeqD d ds) (he : ED X ρ e d) : ID X ρ tg e ds := by
  cases h with
  | lst => exact id_list he
  | tup => exact id_tup he
end
end DL
namespace DL
open PySem PySem.Spec PyProof.Rows L2
section
variable {X : Cx} {ρ : En} {Φ : Out → Prop} {e a b c : Expr} {pos : Pos} {d : D}
theorem call_setL (hc : X.calm = true) : CallR X (.type "set") (fun vs H Q => ∃ (l : Addr) (ns : List Int), vs = [.ref l] ∧ SqL X.K H l (ns.map V.int) ∧ ns.length + 1 < scanBound ∧ ∀ p m, H p = none → Q (.ref p) (upd H p (SetO X.w p (fun j => decide (j ∈ ns)) m))) := by
  intro pins s σ H vs us Q I r h
  obtain ⟨l, ns, rfl, hs, few, q⟩ := h
  rw [Vals.ref1 r]
  obtain ⟨its, rv, pl, hz⟩ := I.list hs
  refine set_of_list ns (I.ok.hd hc) pl.isList (by simpa using ints_of_vals rv) few fun g tk m hS _ hk => ?_
  exact ⟨.ref _, _, I.laid (t' := tk) hk (Nat.le_refl _) (setO_new hS), rfl, q _ m (I.hok.fresh (Nat.le_refl _))⟩
theorem asc_of {l : List Int} (h : l.Pairwise (· ≤ ·)) (n : l.Nodup) : Asc l := (h.and n).imp fun {a b} ⟨q, z⟩ => by omega
theorem call_sortedS (hc : X.calm = true) : CallR X (.builtin "sorted") (fun vs H Q => ∃ (a : Addr) (S : Int → Bool) (n : Nat), vs = [.ref a] ∧ H a = some (SetO X.w a S n) ∧ ∀ (ns : List Int) p, Asc ns → (∀ k, k ∈ ns ↔ S k = true) → H p = none → Q (.ref p) (upd H p (.lst (ns.map V.int)))) := by
  intro pins s σ H vs us Q I r h
  obtain ⟨a, S, n, rfl, ha, q⟩ := h
  rw [Vals.ref1 r]
  obtain ⟨o, es, ep, t, ho, hex, hd, good, nod, mem, hb, hf, hn, hr, hl⟩ := setO_get I ha
  refine Calls.call_function_entry PyProof.Rows.kind_sorted PyProof.Rows.plain_sorted PyProof.Rows.entry_sorted (PyProof.Rows.args_sorted1 _) ?_
  unfold Builtin.«sorted»
  refine wpAny_bind (m := checkCount "sorted" 1 1 _) (wpAny_pure ?_)
  refine wpAny_bind (collect_set (A := X.A.in1) (I.ok.hd hc) ⟨o, ho, hex.1, hd⟩ hf hb hr hl fun s1 vs k1 hz g1 o1 pm => ?_)
  have hvl : vs.length < 4096 := by
    rw [pm.length_eq, List.length_map, Array.length_toList]
    exact hb
  have hi : IntsAre vs (vs.map SrtO.iv) := SrtO.ints_iv fun v hv => by
    obtain ⟨e, he, q⟩ := List.mem_map.mp (pm.mem_iff.mp hv)
    obtain ⟨k, tk, h1, _⟩ := good e he
    exact ⟨k, tk, by rw [← q]; exact h1⟩
  have pk : (vs.map SrtO.iv).Perm (es.toList.map keyOf) := by
    have e1 := pm.map SrtO.iv
    rw [List.map_map] at e1
    refine e1.trans (List.Perm.of_eq (List.map_congr_left fun e he => ?_))
    obtain ⟨k, tk, h1, _⟩ := good e he
    show SrtO.iv e.2 = keyOf e
    unfold keyOf
    rw [h1]; rfl
  have I1 : Inv X pins σ H s1 := I.call' (ch := []) o1 (Un.kept k1) (I.hok.kept k1) (by rw [g1]; exact I.bare) (fun b z => absurd z (by simp))
  have hz2 : vs.length ≤ sizeLine := by rw [sizeLine_eq]; omega
  refine wpAny_bind (wpAny_newList ?_ hz2)
  have hoL : (s1.heap.push (seqObj "list" vs.toArray 0)).get? s1.heap.objs.size = some (seqObj "list" vs.toArray 0) := Heap.get?_push_size _ rfl
  refine wpAny_bind (wpAny_holding (wpAny_call_entry PyProof.Rows.slot_list_sort ⟨_, hoL, rfl⟩ PyProof.Rows.entry_list_sort
    (SrtO.list_sort_ord SrtO.swo_int hoL hz2 (fun h2 => SrtO.ints_sortable hi h2) fun out a1 a2 => ⟨_, rfl, ?_⟩) (PyProof.Rows.args_list_sort _)))
  obtain ⟨k3, k4, k5⟩ := SrtO.ints_out hi a1 a2
  obtain ⟨ep2, he2⟩ := PyProof.Rows.sortedHeap_at (vs := vs) (out := out.toArray) hoL
  have pn := k4.trans pk
  refine wpAny_pure ⟨_, rfl, .ref s1.heap.objs.size, upd H s1.heap.objs.size (.lst ((out.map SrtO.iv).map V.int)), I1.laid (t' := s1.toks) (fun b u e => ?_) (Nat.le_refl _) ⟨by rw [List.length_map, k4.length_eq, List.length_map]; exact hz2, out, ep2, vals_of_ints k3, he2⟩, rfl, q _ _ (asc_of k5 (pn.nodup_iff.mpr nod)) (fun k => by rw [pn.mem_iff, ← mem k]) (I1.hok.fresh (Nat.le_refl _))⟩
  have hlt := Heap.lt_size e
  rw [PyProof.Rows.sortedHeap_old (Nat.ne_of_lt hlt) (by rw [size_push']; exact Nat.lt_succ_of_lt hlt)]
  exact Heap.get?_push_of_some _ e
/-- sorted(set(e)) -/
theorem eo_srtSet {ns : List Int} {p1 p2 q : Pos} (hc : X.calm = true) (hs : Gl X "sorted") (hms : X.mg "sorted" = none) (ht : Gl X "set") (hmt : X.mg "set" = none) (he : ED X ρ e (.lst (ns.map .int))) (few : ns.length + 1 < 4096)
    (h1 : starEach [e] X.env = (false, eval e X.env) :: starEach [] X.env := by rfl) (h2 : (backTo q (starEach [] X.env)).any (·.1) = false := by rfl)
    (h3 : starEach [.Call (.Name "set" p2) [e] [] q] X.env = (false, eval (.Call (.Name "set" p2) [e] [] q) X.env) :: starEach [] X.env := by rfl) (h4 : (backTo pos (starEach [] X.env)).any (·.1) = false := by rfl) :
    EO X ρ (.Call (.Name "sorted" p1) [.Call (.Name "set" p2) [e] [] q] [] pos) (.lst ((srtU ns).map .int)) := fun B0 B σ H0 H Q j k => by
  refine RE.of (pe_callB (call_sortedS hc) hs hms bb_sorted (pa_cons (pe_callTy (call_setL hc) ht hmt bb_set (pa_cons pe_star pa_nil h1) (by decide) (by decide) h1 h2) pa_nil h3) (by decide) (by decide) h3 h4) ?_
  refine he B0 B σ H0 H _ j fun v G0 G g r => ?_
  obtain ⟨l, vs, rfl, hS, rr⟩ := r
  rw [DRs.ints rr] at hS
  refine ⟨l, ns, rfl, g.sh.seq hS, few, fun p m hp => ?_⟩
  refine ⟨p, _, m, rfl, upd_same, fun ks p2 ha hm hp2 => ?_⟩
  have e1 : ks = srtU ns := asc_ext ha (asc_srtU ns) fun y => by rw [hm, mem_srtU, decide_eq_true_eq]
  subst e1
  have gA := g.trans (JH.own (o := SetO X.w p (fun j => decide (j ∈ ns)) m) g.sh hp)
  exact k p2 _ G0 _ (gA.trans (JH.own gA.sh hp2)) upd_same (gA.sh.free hp2) (gA.sB.free hp2) ⟨_, rfl, DRs.ofInts _⟩
/-- while -/
theorem ws_whileU {γ U : Type} {body : List Stmt} (G : γ → U → List (Nat × Sl)) (V : En → U) (P : γ → Prop) (μ : γ → Nat) (g0 : γ) (hρ : upds ρ (G g0 (V ρ)) = ρ) (h0 : P g0)
    (hs : ∀ g u, P g → ∃ t, TD X (upds ρ (G g u)) c t ∧ (t = true → WSs X body (upds ρ (G g u)) (fun o => match o with | .nx r => ∃ g', upds ρ (G g' (V r)) = r ∧ P g' ∧ μ g' < μ g | .ct r => ∃ g', upds ρ (G g' (V r)) = r ∧ P g' ∧ μ g' < μ g | .bk r => Φ (.nx r) | .rt v => Φ (.rt v) | .ro c => Φ (.ro c) | .rc v cs => Φ (.rc v cs))) ∧ (t = false → Φ (.nx (upds ρ (G g u)))))
    (hp : PassesOwn (model X.prog X.w) X.A X.env X.xe := by exact PassesOwn.never) : WS X (.While c body [] pos) ρ Φ := fun B0 B σ H0 H Dn j k => by
  refine ⟨_, ps_while hp pt_star pss_star, fun m σ1 H1 => ∃ g u L0, m = μ g ∧ P g ∧ J X.K H0 B σ1 L0 H1 (upds ρ (G g u)), ⟨μ g0, g0, V ρ, H0, rfl, h0, by rw [hρ]; exact j.rebase⟩, ?_⟩
  rintro m σ1 H1 ⟨g, u, L0, rfl, p, j1⟩
  obtain ⟨t, ht, h1, h2⟩ := hs g u p
  refine ht H0 B σ1 L0 H1 _ j1 fun L1 H2 g1 => ?_
  cases t with
  | false => exact iteF (k _ (h2 rfl) σ1 L1 H2 (j.unbase (j1.grow g1)))
  | true =>
    refine iteT ⟨fun σ2 H3 => ∃ g' u' L0, μ g' < μ g ∧ P g' ∧ J X.K H0 B σ2 L0 H3 (upds ρ (G g' u')), fun σ2 H3 ⟨g', u', L2, hm, p', j'⟩ => ⟨μ g', hm, g', u', L2, rfl, p', j'⟩, ?_⟩
    refine h1 rfl H0 B σ1 L1 H2 _ (j1.grow g1) fun o ho => ?_
    cases o with
    | nx r => exact fun σ3 M0 M j3 => by obtain ⟨g', e1, p', hm⟩ := ho; exact ⟨g', V r, M0, hm, p', by rw [e1]; exact j3⟩
    | ct r => exact fun σ3 M0 M j3 => by obtain ⟨g', e1, p', hm⟩ := ho; exact ⟨g', V r, M0, hm, p', by rw [e1]; exact j3⟩
    | bk r => exact fun σ3 M0 M j3 => k _ ho σ3 M0 M (j.unbase j3)
    | rt v => exact fun v' M0 M g r => k _ ho v' M0 M ⟨j.hp.s0.trans g.s0, g.sh, g.sB, fun b u e n e' => g.fr b u e n (j.hp.fr b u e n e')⟩ r
    | ro c => exact fun a o M0 M g h1 h2 h3 r => k _ ho a o M0 M ⟨j.hp.s0.trans g.s0, g.sh, g.sB, fun b u e n e' => g.fr b u e n (j.hp.fr b u e n e')⟩ h1 h2 h3 r
    | rc v cs => exact fun a M0 M g h1 h2 r => k _ ho a M0 M ⟨j.hp.s0.trans g.s0, g.sh, g.sB, fun b u e n e' => g.fr b u e n (j.hp.fr b u e n e')⟩ h1 h2 r
/-- x += e, ints -/
theorem ws_aug (i : Nat) {x : Str} {pos' : Pos} {m n : Int} (hN : X.N.Nodup) (hi : ρ[i]? = some (.sh (.int m))) (he : ED X ρ e (.int n)) (hΦ : Φ (.nx (ρ.set i (.sh (.int (m + n)))))) (hx : X.N[i]? = some x := by rfl) (hl : Loc X.env.scope x := by first | exact Or.inl rfl | exact Or.inr rfl)
    (hf : X.fn x = true ∨ X.env.scope.names.lookup x = some .local := by first | exact .inl rfl | exact .inr rfl) : WS X (.AugAssign (.Name x pos') .Add e pos) ρ Φ := fun B0 B σ H0 H Dn j k => by
  obtain ⟨ov, e1, v, rfl, hv⟩ := j.get hi
  cases (show v = .int m from hv)
  refine ⟨_, ps_aug hN hx hl pe_star ip_add hf, _, e1, he B0 B σ H0 H _ j fun w G0 G g r => ?_⟩
  cases (show w = .int n from r)
  exact ⟨m, n, rfl, rfl, k _ hΦ _ G0 G ((j.grow g).setSh (d := .int (m + n)) rfl)⟩
end
end DL
namespace DL
open PySem PySem.Spec PyProof.Rows L2
section
variable {X : Cx} {ρ : En} {a b : Expr} {pos : Pos}
theorem op_catL : OpR X (binaryOp .Add) (fun x y H Q => ∃ (l m : Addr) (xs zs : List V), x = .ref l ∧ y = .ref m ∧ SqL X.K H l xs ∧ SqL X.K H m zs ∧ xs.length + zs.length ≤ sizeLine ∧ ∀ p, H p = none → Q (.ref p) (upd H p (.lst (xs ++ zs)))) := by
  intro pins s σ H x y v u Q I rx ry h
  obtain ⟨l, m, xs, zs, rfl, rfl, h1, h2, hz, q⟩ := h
  cases rx
  cases ry
  obtain ⟨its, r1, ⟨⟨c1, d1, t1, s1⟩, n1, o1, e1, _, f1⟩, _⟩ := I.list h1
  obtain ⟨jts, r2, ⟨⟨c2, d2, t2, s2⟩, n2, o2, e2, _, f2⟩, _⟩ := I.list h2
  simp only at e1 f1 e2 f2
  subst e1 f1 e2 f2
  have hl : its.length + jts.length ≤ sizeLine := by rw [← r1.length, ← r2.length]; exact hz
  refine concat_meets ⟨_, o1, rfl⟩ ⟨_, o2, rfl⟩ noFill_list_add seq_list_add PySem.F.slot_list_add PySem.F.entry_list_add (PySem.F.args_list_add_2 _ _) (list_addW l m its.toArray jts.toArray n1 n2 d1 d2 s1 s2 (by simpa using hl)) ⟨o1, o2, ?_⟩
  have ea : its.toArray ++ jts.toArray = (its ++ jts).toArray := by simp
  rw [ea]
  exact ⟨.ref _, _, I.lnew (t' := s.toks) (r1.append r2) (by rw [List.length_append]; omega), rfl, q _ I.fresh⟩
/-- a + b, lists -/
theorem eo_cat {ds es : List D} (ha : ED X ρ a (.lst ds)) (hb : ED X ρ b (.lst es)) (hl : ds.length + es.length ≤ sizeLine) : EO X ρ (.BinOp a .Add b pos) (.lst (ds ++ es)) := fun B0 B σ H0 H Q j k =>
  RE.of (pe_op op_catL pe_star pe_star) (ha B0 B σ H0 H _ j fun x G0 G g1 r1 => hb B0 B σ G0 G _ (j.grow g1) fun y L0 L g2 r2 => by
    obtain ⟨p, vs, rfl, h1, h2⟩ := DR.mono g2.s0 _ _ r1
    obtain ⟨q, ws, rfl, h3, h4⟩ := r2
    exact ⟨p, q, vs, ws, rfl, rfl, g2.sh.seq h1, g2.sh.seq h3, by rw [← DRs.length h2, ← DRs.length h4]; exact hl, fun z hz => k z _ L0 _ ((g1.trans g2).trans (JH.own g2.sh hz)) upd_same (g2.sh.free hz) ((g1.trans g2).sB.free hz) ⟨_, rfl, DRs.app h2 h4⟩⟩)
end
end DL
namespace DL
open PySem PySem.Spec PyProof.Rows L2
section
variable {X : Cx} {ρ : En} {pos : Pos} {a b e : Expr}
theorem op_notInSq (hu : X.A.units + 1 < cLine) : OpR X (compareOp .NotIn) (fun x y H Q => ∃ (a b : Addr) (kvs : List (List Key × V)) (k : List Key), x = .ref b ∧ y = .ref a ∧ Rd H a (.dT kvs) ∧ SqT X.K H b (k.map kV) ∧ Q (.bl (!(valV kvs k).isSome)) H) := by
  rintro pins s σ H x y v u Q I rx ry ⟨a, b, kvs, k, rfl, rfl, h1, h2, q⟩
  cases (show v = Value.ref b from rx); cases (show u = Value.ref a from ry)
  obtain ⟨z, hd, xs, rel, dd⟩ := dt_rd I.hok h1
  obtain ⟨its, r, ⟨o, e, c, n, dat⟩, _⟩ := I.tuple h2
  refine wpAny_notIn_heap (tupleKind_room_in1 hu) (k := k) ⟨o, its.toArray, n, e, c, dat, by simpa using items_are r⟩ hd dd ?_
  have qq := (rel.val k).isSome_eq
  rw [Option.isSome_map] at qq
  rw [← qq]
  exact ⟨.bl (!(valV kvs k).isSome), H, I.tok _, rfl, q⟩
theorem bx_inj {l m : List Bx} : l.map Bx.e = m.map Bx.e ↔ l = m := List.map_inj_right (f := Bx.e) (fun a b e => Bx.inj e)
theorem c2_eqBx {l m : List Bx} (hu : X.A.units + 64 < cLine) : C2 X .Eq (.tup (l.map Bx.e)) (.tup (m.map Bx.e)) (.bl (decide (l = m))) :=
  c2_eqC (n := 2) (m := 2) hu (.tup Bx.cms) (.tup Bx.cms) (by simp [bx_inj])
theorem c2_neBx {l m : List Bx} (hu : X.A.units + 64 < cLine) : C2 X .NotEq (.tup (l.map Bx.e)) (.tup (m.map Bx.e)) (.bl (!decide (l = m))) :=
  c2_neC (n := 2) (m := 2) hu (.tup Bx.cms) (.tup Bx.cms) (by simp [bx_inj])
end
section
variable {X : Cx} {ρ : En} {st : Stmt} {rest : List Stmt} {Φ : Out → Prop}
/-- the ways through a statement come together -/
theorem ws_join {γ U : Type} (G : γ → U → List (Nat × Sl)) (V : En → U) (P : γ → Prop) (h : WS X st ρ (fun o => match o with | .nx r => ∃ g, P g ∧ r = upds ρ (G g (V r)) | .bk r => Φ (.bk r) | .ct r => Φ (.ct r) | .rt v => Φ (.rt v) | .ro c => Φ (.ro c) | .rc v cs => Φ (.rc v cs)))
    (k : ∀ g u, P g → WSs X rest (upds ρ (G g u)) Φ) : WSs X (st :: rest) ρ Φ := by
  refine ws_cons fun B0 B σ H0 H Dn j kk => h B0 B σ H0 H Dn j fun o ho => ?_
  cases o with
  | nx r =>
    obtain ⟨g, hp, e⟩ := ho
    have := k g (V r) hp
    rw [← e] at this
    exact kk (.nx r) this
  | bk r => exact kk _ ho
  | ct r => exact kk _ ho
  | rt v => exact kk _ ho
  | ro c => exact kk _ ho
  | rc v cs => exact kk _ ho
end
end DL
namespace DL
open PySem PySem.Spec PyProof.Rows L2
/-- what the top says of a class: cn its name, fs its fields -/
structure Kl (K : PySem.W.Frag) (mg : Str → Option Value) (cn : Str) (fs : List Str) : Prop where
  ex : ∃ C, PySem.W.nsIn K mainGlobals cn = some (some (.ref C)) ∧ mg cn = some (.ref C) ∧ C8.InsC K C ∧ PySem.W.keepIn K (.ref C) = true ∧ ∀ f ∈ fs, NoAttr K C f
theorem kit_self {K : PySem.W.Frag} {C : Addr} : PySem.W.kitOne K (.ref C) (.ref C) = some true := by
  unfold PySem.W.kitOne
  exact if_pos (by first | rfl | simp | decide)
theorem zip_at {f : Str} : ∀ {ns : List Str} {vs : List V} {i : Nat} {v : V}, ns[i]? = some f → (ns.take i).contains f = false → vs[i]? = some v → (ns.zip vs).lookup f = some v
  | n :: ns, w :: vs, 0, v, h1, _, h3 => by
    simp only [List.getElem?_cons_zero, Option.some.injEq] at h1 h3
    subst h1; subst h3
    simp [List.lookup_cons]
  | n :: ns, w :: vs, i + 1, v, h1, h2, h3 => by
    simp only [List.getElem?_cons_succ] at h1 h3
    rw [List.take_succ_cons, List.contains_cons, Bool.or_eq_false_iff] at h2
    rw [List.zip_cons_cons, List.lookup_cons]
    rw [h2.1]
    exact zip_at h1 h2.2 h3
  | [], vs, i, v, h1, _, _ => by simp at h1
  | n :: ns, [], i, v, _, _, h3 => by simp at h3
theorem zip_none {m : Str} : ∀ {ns : List Str} {vs : List V}, ns.contains m = false → (ns.zip vs).lookup m = none
  | [], vs, _ => by simp
  | n :: ns, [], _ => by simp
  | n :: ns, v :: vs, h => by
    rw [List.contains_cons, Bool.or_eq_false_iff] at h
    rw [List.zip_cons_cons, List.lookup_cons, h.1]
    exact zip_none h.2
theorem putF_new {f : Str} {y : V} : ∀ {ns : List Str} {vs : List V}, ns.contains f = false → ns.length = vs.length → putF f y (ns.zip vs) = (ns ++ [f]).zip (vs ++ [y])
  | [], [], _, _ => rfl
  | n :: ns, v :: vs, h, hl => by
    rw [List.contains_cons, Bool.or_eq_false_iff] at h
    have hne : ¬ (n = f) := fun e => by rw [e] at h; simp at h
    show (if n = f then _ else (n, v) :: putF f y (ns.zip vs)) = _
    rw [if_neg hne, putF_new h.2 (by simpa using hl)]
    rfl
  | [], v :: vs, _, hl => by simp at hl
  | n :: ns, [], _, hl => by simp at hl
section
variable {X : Cx} {ρ : En} {e : Expr} {pos : Pos} {cn f : Str} {ns fs : List Str} {ds : List D} {d : D}
/-- e.f, e an instance that is shared -/
theorem ed_fld (i : Nat) (kl : Kl X.K X.mg cn fs) (he : ED X ρ e (.obj cn ns ds)) (hn : ns[i]? = some f := by rfl) (hd : ds[i]? = some d := by rfl) (hu : (ns.take i).contains f = false := by decide +kernel) (hf : f ∈ fs := by decide +kernel)
    (hb : attributeBase e f X.env (eval e X.env) = eval e X.env := by rfl) : ED X ρ (.Attribute e f pos) d := fun B0 B σ H0 H Q j k => by
  refine RE.of (pe_fld pe_star hb) (he B0 B σ H0 H _ j fun v G0 G g r => ?_)
  obtain ⟨a, C, dx, vs, rfl, hC, ha, hlen, hvs⟩ := r
  obtain ⟨C', hC', hm, hc, hk, hna⟩ := kl.ex
  rw [hC] at hC'; cases hC'
  obtain ⟨v, hv, rv⟩ := DRs.get hvs hd
  exact ⟨a, C, dx, _, v, rfl, g.sh _ _ ha, hc.cl, hna f hf, zip_at hn hu hv, k v G0 G g rv⟩
/-- e.f, e the instance that slot s holds as its own -/
theorem ed_fldO (s i : Nat) {a : Addr} {x : Str} {p : Pos} (kl : Kl X.K X.mg cn fs) (hρ : ρ[s]? = some (.ox [(a, .ins cn ns ds)] (.ad a))) (hn : ns[i]? = some f := by rfl) (hd : ds[i]? = some d := by rfl) (hu : (ns.take i).contains f = false := by decide +kernel) (hf : f ∈ fs := by decide +kernel)
    (hN : X.N[s]? = some x := by rfl) (hv : Vis X.env.scope x := by first | exact Or.inl rfl | exact Or.inr (Or.inl rfl) | exact Or.inr (Or.inr rfl)) (hdb : (x == ("__debug__" : Str)) = false := by decide) (hcd : (x == ("__classdict__" : Str)) = false := by decide)
    (hb : attributeBase (.Name x p) f X.env (eval (.Name x p) X.env) = eval (.Name x p) X.env := by rfl) : ED X ρ (.Attribute (.Name x p) f pos) d := fun B0 B σ H0 H Q j k => by
  obtain ⟨ov, e1, ⟨v, rfl, rv⟩, hcs, _⟩ := j.get hρ
  cases (show v = .ref a from rv)
  obtain ⟨o, h1, h2, h3, h4⟩ := (hcs _ (List.mem_singleton_self _)).ex
  obtain ⟨vs, C, dx, rfl, hC, hlen, hvs⟩ := h4
  obtain ⟨C', hC', hm, hc, hk, hna⟩ := kl.ex
  rw [hC] at hC'; cases hC'
  obtain ⟨v, hv', rv⟩ := DRs.get hvs hd
  exact RE.of (pe_fld (pe_var hN hv hdb hcd) hb) ⟨_, e1, a, C, dx, _, v, rfl, h1, hc.cl, hna f hf, zip_at hn hu hv', k v H0 H (JH.refl j.same) rv⟩
/-- self.f = e, a new field -/
theorem ws_setF (s : Nat) {a : Addr} {x : Str} {p pos' : Pos} {value : Expr} {Φ : Out → Prop} (kl : Kl X.K X.mg cn fs) (hρ : ρ[s]? = some (.ox [(a, .ins cn ns ds)] (.ad a))) (hv : ED X ρ value d) (hΦ : Φ (.nx (ρ.set s (.ox [(a, .ins cn (ns ++ [f]) (ds ++ [d]))] (.ad a)))))
    (hnew : ns.contains f = false := by decide +kernel) (hf : f ∈ fs := by decide +kernel) (hlt : ns.length < 1000 := by decide)
    (hN : X.N[s]? = some x := by rfl) (hvis : Vis X.env.scope x := by first | exact Or.inl rfl | exact Or.inr (Or.inl rfl) | exact Or.inr (Or.inr rfl)) (hdb : (x == ("__debug__" : Str)) = false := by decide) (hcd : (x == ("__classdict__" : Str)) = false := by decide)
    (hs : swapsWith value (some (.Attribute (.Name x p) f pos')) pos.line X.env = pure false := by rfl) : WS X (.Assign [.Attribute (.Name x p) f pos'] value pos) ρ Φ := fun B0 B σ H0 H Dn j k => by
  refine ⟨_, ps_fld (pe_var hN hvis hdb hcd) pe_star hs, hv B0 B σ H0 H _ j fun v G0 G g r => ?_⟩
  have j1 := j.grow g
  obtain ⟨ov, e1, ⟨v1, rfl, rv⟩, hcs, _⟩ := j1.get hρ
  cases (show v1 = .ref a from rv)
  obtain ⟨o, h1, h2, h3, h4⟩ := (hcs _ (List.mem_singleton_self _)).ex
  obtain ⟨vs, C, dx, rfl, hC, hlen, hvs⟩ := h4
  obtain ⟨C', hC', hm, hc, hk, hna⟩ := kl.ex
  rw [hC] at hC'; cases hC'
  have hl : (ns.zip vs).length < 1000 := by rw [List.length_zip]; omega
  refine ⟨_, e1, a, C, dx, _, rfl, h1, hc.cl, hna f hf, hl, ?_⟩
  rw [putF_new hnew hlen]
  have j2 := j1.put (c' := .ins cn (ns ++ [f]) (ds ++ [d])) (o := .ins C dx ((ns ++ [f]).zip (vs ++ [v]))) hρ (List.mem_singleton_self _) ⟨vs ++ [v], C, dx, rfl, hC, by simp [hlen], DRs.app hvs (DRs.one r)⟩
  have e : putC [(a, OC.ins cn ns ds)] a (.ins cn (ns ++ [f]) (ds ++ [d])) = [(a, .ins cn (ns ++ [f]) (ds ++ [d]))] := by simp [putC]
  rw [e] at j2
  exact k _ hΦ _ _ _ j2
/-- isinstance(e, C), e an instance of C -/
theorem ed_isC {p1 p2 : Pos} (kl : Kl X.K X.mg cn fs) (hg : Gl X "isinstance") (hm : X.mg "isinstance" = none) (hgc : Gl X cn) (he : ED X ρ e (.obj cn ns ds))
    (hdc : (cn == ("__debug__" : Str)) = false := by decide +kernel)
    (h1 : starEach [e, .Name cn p2] X.env = (false, eval e X.env) :: starEach [.Name cn p2] X.env := by rfl) (h2 : starEach [.Name cn p2] X.env = (false, eval (.Name cn p2) X.env) :: starEach [] X.env := by rfl) (h3 : (backTo pos (starEach [.Name cn p2] X.env)).any (·.1) = false := by rfl) :
    ED X ρ (.Call (.Name "isinstance" p1) [e, .Name cn p2] [] pos) (.bl true) := fun B0 B σ H0 H Q j k => by
  obtain ⟨C', hC', hmc, hc, hk, hna⟩ := kl.ex
  refine RE.of (pe_callB (C8.call_isC hc) hg hm bb_isinstance (pa_cons pe_star (pa_cons (pe_glob (v := .ref C') hgc hmc rfl hdc) pa_nil h2) h1) (by decide) (by decide) h1 h3) (he B0 B σ H0 H _ j fun v G0 G g r => ?_)
  obtain ⟨a, C, dx, vs, rfl, hC, ha, hlen, hvs⟩ := r
  rw [hC] at hC'; cases hC'
  exact ⟨a, dx, _, rfl, g.sh _ _ ha, k _ G0 G g rfl⟩
end
/-- a heap without a -/
def er (H : Hp) (a : Addr) : Hp := fun b => if b = a then none else H b
theorem er_same {H : Hp} {a : Addr} : er H a a = none := if_pos rfl
theorem er_ne {H : Hp} {a b : Addr} (h : b ≠ a) : er H a b = H b := if_neg h
theorem er_sub {H : Hp} {a : Addr} : Same (er H a) H := fun b u e => by
  by_cases h : b = a
  · subst h; rw [er_same] at e; cases e
  · rwa [er_ne h] at e
/-- __init__'s promise: R of the arguments, the fields' names, the fields -/
def spI (K : PySem.W.Frag) (cn : Str) (R : List D → List Str → List D → Prop) : Sp := fun vs H Q _ => ∃ H0 a C dx ds ns es ws, vs = .ref a :: ws ∧ PySem.W.nsIn K mainGlobals cn = some (some (.ref C)) ∧ Same H0 H ∧ H a = some (.ins C dx []) ∧ H0 a = none ∧ DRs K H0 ds ws ∧ R ds ns es ∧
  ∀ H0' H' o, JH H0 (er H a) H0' H' → H' a = some o → H0' a = none → OCR K H0' (.ins cn ns es) o → Q .non H'
def enI (N : List Str) (a : Addr) (cn : Str) (ds : List D) : En := .ox [(a, .ins cn [] [])] (.ad a) :: (ds.map Sl.sh ++ List.replicate (N.length - (ds.length + 1)) Sl.no)
section
variable {P : Program} {w : World} {K : PySem.W.Frag} {mg : Str → Option Value} {base : Heap}
theorem j_startI {N : List Str} {H0 H : Hp} {a C dx : Addr} {cn : Str} {ds : List D} {vs : List V} (s : Same H0 H) (hC : PySem.W.nsIn K mainGlobals cn = some (some (.ref C))) (ha : H a = some (.ins C dx [])) (h0 : H0 a = none) (r : DRs K H0 ds vs) (hl : ds.length + 1 ≤ N.length) : J K H0 (er H a) (L2.start N (.ref a :: vs)) H0 H (enI N a cn ds) := by
  have hlen := DRs.length r
  have kind : ∀ (i : Nat) s, (enI N a cn ds)[i]? = some s → i = 0 ∨ s = .no ∨ ∃ d, s = .sh d := fun i s h => by
    cases i with
    | zero => exact .inl rfl
    | succ i =>
      refine .inr ?_
      unfold enI at h
      rw [List.getElem?_cons_succ] at h
      by_cases hi : i < ds.length
      · rw [List.getElem?_append_left (by simpa using hi), List.getElem?_map, show ds[i]? = some ds[i] by simp [hi]] at h
        cases h; exact .inr ⟨_, rfl⟩
      · rw [List.getElem?_append_right (by simp; omega), List.getElem?_replicate] at h
        split at h
        · cases h; exact .inl rfl
        · cases h
  refine ⟨⟨Same.refl _, s, er_sub, fun b o e _ h => h⟩, by simp [L2.start, enI, hlen], fun i sl ov h1 h2 => ?_, fun i j s1 s2 o1 o2 b h1 h2 _ _ w1 w2 => ?_⟩
  · cases i with
    | zero =>
      unfold enI at h1
      unfold L2.start at h2
      simp only [List.getElem?_cons_zero, Option.some.injEq, List.map_cons, List.cons_append] at h1 h2
      subst h1; subst h2
      refine ⟨⟨_, rfl, rfl⟩, fun p hp => ?_, by simp⟩
      rw [List.mem_singleton] at hp; subst hp
      exact ⟨_, ha, h0, er_same, [], C, dx, rfl, hC, rfl, rfl⟩
    | succ i =>
      unfold enI at h1
      unfold L2.start at h2
      simp only [List.getElem?_cons_succ, List.map_cons, List.cons_append] at h1 h2
      by_cases hi : i < ds.length
      · rw [List.getElem?_append_left (by simpa using hi), List.getElem?_map] at h1
        rw [List.getElem?_append_left (by simp; omega), List.getElem?_map] at h2
        obtain ⟨v, e1, e2⟩ := DRs.get r (show ds[i]? = some ds[i] by simp [hi])
        rw [show ds[i]? = some ds[i] by simp [hi]] at h1
        rw [e1] at h2
        cases h1; cases h2
        exact ⟨v, rfl, e2⟩
      · rw [List.getElem?_append_right (by simp; omega), List.getElem?_replicate] at h1
        split at h1
        · cases h1; trivial
        · cases h1
  · rcases kind i s1 h1 with e1 | e1
    · rcases kind j s2 h2 with e2 | e2
      · rw [e1, e2]
      · exact absurd w2 (Owns.none e2 b)
    · exact absurd w1 (Owns.none e1 b)
theorem fn_okI {x qual : Str} {st : Stmt} {f : Addr} {fd : FuncData} {N ps : List Str} {k : Nat} {cn : Str} {R : List D → List Str → List D → Prop} (F : Fun K x qual st f fd) (S : FnScope N ps (defScope st)) (hR : ∀ ds ns es, R ds ns es → ds.length + 1 = ps.length)
    (h : ∀ a ds ns es, R ds ns es → ∀ (cdv : Value) (A : Around) (outer : List Env) (s : Shared) (H : Hp) (E : XK), Room k (A.deeper (envOfC qual (defScope st) s.heap.objs.size f cdv)) →
      WSs (bx P w K mg base N qual st f cdv A outer s H E) (defBody st) (enI N a cn ds) (fun o => ∃ ρ es', o = .nx ρ ∧ ρ[0]? = some (.ox [(a, .ins cn ns es')] (.ad a)) ∧ ∀ H vs, DRs K H es' vs → DRs K H es vs)) : FnOk P w K mg base CX0 (k + 1) f fd ps (spI K cn R) := by
  refine F.ok S (fun vs H Q E hs => ?_) fun cdv A outer s H vs Q E hr hs => ?_
  · obtain ⟨H0, a, C, dx, ds, ns, es, ws, rfl, hC, s0, ha, h0, r, q, _⟩ := hs
    rw [List.length_cons, ← DRs.length r]; exact hR ds ns es q
  · obtain ⟨H0, a, C, dx, ds, ns, es, ws, rfl, hC, s0, ha, h0, r, q, kk⟩ := hs
    have hN : ds.length + 1 ≤ N.length := by
      have h1 := hR ds ns es q
      have h2 := congrArg List.length S.pre
      rw [List.length_take] at h2
      omega
    obtain ⟨t, h1, h2⟩ := h a ds ns es q cdv A outer s H E hr H0 (er H a) (L2.start N (.ref a :: ws)) H0 H (j_startI s0 hC ha h0 r hN) (Dn := { nx := fun _ H' => Q .non H', rt := Q }) fun o ho => by
      obtain ⟨ρ, es', rfl, hρ, hw⟩ := ho
      intro σ G0 G j
      obtain ⟨ov, e1, ⟨v, rfl, rv⟩, hcs, _⟩ := j.get hρ
      obtain ⟨o, g1, g2, g3, g4⟩ := (hcs _ (List.mem_singleton_self _)).ex
      obtain ⟨vs, C', dx', e1, e2, e3, e4⟩ := g4
      exact kk G0 G o j.hp g1 g2 ⟨vs, C', dx', e1, e2, e3, hw _ _ e4⟩
    exact ⟨t, h1, h2⟩
/-- a class that is made by calling it -/
structure FnI (P : Program) (w : World) (K : PySem.W.Frag) (mg : Str → Option Value) (base : Heap) (cn : Str) (k : Nat) (R : List D → List Str → List D → Prop) : Prop where
  ex : ∃ C f fd ps, PySem.W.nsIn K mainGlobals cn = some (some (.ref C)) ∧ mg cn = some (.ref C) ∧ Mk K C f ∧ FnOk P w K mg base CX0 k f fd ps (spI K cn R) ∧ Binds K fd ps []
theorem eo_make {X : Cx} {ρ : En} {e : Expr} {pos : Pos} {cn : Str} {k : Nat} {R : List D → List Str → List D → Prop} {es : List Expr} {ds zs : List D} {ns : List Str} {p : Pos} (G : FnI X.prog X.w X.K X.mg X.base cn k R) (hr : Room (k + 1) X.A) (hg : Gl X cn) (ha : AD X ρ (e :: es) ds) (hR : R ds ns zs)
    (hdb : (cn == ("__debug__" : Str)) = false := by decide +kernel) (he : starEach (e :: es) X.env = (false, eval e X.env) :: starEach es X.env := by rfl) (hpl : (backTo pos (starEach es X.env)).any (·.1) = false := by rfl) :
    EO X ρ (.Call (.Name cn p) (e :: es) [] pos) (.ins cn ns zs) := fun B0 B σ H0 H Q j kk => by
  obtain ⟨C, f, fd, ps, hC, hm, M, F, hb⟩ := G.ex
  refine RE.of (pe_make (E := E0) M F hr hg hm hb .nil pass0 pa_star hdb he hpl) (ha B0 B σ H0 H _ j fun vs G0 G g r => ?_)
  intro x dx hx hdx hne
  rw [List.append_nil]
  have g0x : G0 x = none := g.sh.free hx
  have g0d : G0 dx = none := g.sh.free hdx
  have s1 : Same G0 (upd (upd G dx (.own x)) x (.ins C dx [])) := fun b u q => by
    rw [upd_ne (ne_of_none q g0x), upd_ne (ne_of_none q g0d)]
    exact g.sh b u q
  have sE : ∀ b u, G b = some u → er (upd (upd G dx (.own x)) x (.ins C dx [])) x b = some u := fun b u q => by
    have n1 := ne_of_none q hx
    rw [er_ne n1, upd_ne n1, upd_ne (ne_of_none q hdx)]
    exact q
  refine ⟨G0, x, C, dx, ds, ns, zs, vs, rfl, hC, s1, upd_same, g0x, r, hR, fun L0 L o gg e1 e2 e3 => ⟨rfl, ?_⟩⟩
  exact kk x o L0 L (g.trans ⟨gg.s0, gg.sh, fun b u q => gg.sB b u (sE b u q), fun b u q nt q' => gg.fr b u (sE b u q) nt q'⟩) e1 e2 (g.sB.free hx) e3
structure FnM (P : Program) (w : World) (K : PySem.W.Frag) (mg : Str → Option Value) (base : Heap) (cn m : Str) (k : Nat) (R : List D → D → Prop) : Prop where
  ex : ∃ C f fd ps, PySem.W.nsIn K mainGlobals cn = some (some (.ref C)) ∧ Cls K C ∧ Meth K C m f ∧ FnOk P w K mg base CX0 k f fd ps (spR K R) ∧ Binds K fd ps []
end
end DL
namespace DL
open PySem PySem.Spec PyProof.Rows L2
open PySem.W (EachIs AllAlike Sortable KeepsBut SortsAt KeyedOut dataLe dataKind alike sortingHeap sortingHeap_old)
section
variable {X : Cx} {ρ : En} {pos : Pos} {β : Type} {bs : List β} {enc : β → D}
/-- sorted(xs) -/
theorem call_sortedD (ok : KeyOk X.A enc bs) : CallR X (.builtin "sorted") (fun vs H Q => ∃ (l : Addr) (xs : List V) (H0 : Hp), vs = [.ref l] ∧ (SqL X.K H l xs ∨ SqT X.K H l xs) ∧ Same H0 H ∧ DRs X.K H0 (bs.map enc) xs ∧
    ∀ p ys, H p = none → DRs X.K H0 ((srtK enc bs).map enc) ys → Q (.ref p) (upd H p (.lst ys))) := by
  intro pins s σ H vs us Q I rv h
  obtain ⟨l, xs, H0, rfl, hs, s0, hd, q⟩ := h
  rw [Vals.ref1 rv]
  obtain ⟨its, T, o, n, hT, rvs, ho, hc, hdat, hz⟩ : ∃ (its : List Value) (T : String) (o : Obj) (n : Nat), (T = "list" ∨ T = "tuple") ∧ Vals xs its ∧ s.heap.get? l = some o ∧ o.cls = .type T ∧ o.data = .seq its.toArray n ∧ its.length ≤ sizeLine := by
    rcases hs with hs | hs
    · obtain ⟨its, r, ⟨o, n, e1, e2, _, e3⟩, z⟩ := I.list hs
      exact ⟨its, "list", o, n, .inl rfl, r, e1, e2, e3, by rw [← r.length]; exact z⟩
    · obtain ⟨its, r, ⟨o, e1, e2, n, e3⟩, z⟩ := I.tuple hs
      exact ⟨its, "tuple", o, n, .inr rfl, r, e1, e2, e3, by rw [← r.length]; exact z⟩
  have hv : All2 (fun u b => VD X.K H0 u (enc b)) its bs := by
    have : ∀ {us : List Value} {cs : List β} {ws : List V}, DRs X.K H0 (cs.map enc) ws → Vals ws us → All2 (fun u b => VD X.K H0 u (enc b)) us cs := by
      intro us cs
      induction cs generalizing us with
      | nil => intro ws h r; cases (show ws = [] from h); cases r; exact .nil
      | cons c cs ih =>
        intro ws h r
        obtain ⟨v, w, rfl, h1, h2⟩ := h
        cases r with
        | cons r1 r2 => exact .cons ⟨v, r1, h1⟩ (ih h2 r2)
    exact this hd rvs
  have hlen : its.length = bs.length := hv.len
  refine Calls.call_function_entry PyProof.Rows.kind_sorted PyProof.Rows.plain_sorted PyProof.Rows.entry_sorted (PyProof.Rows.args_sorted1 _) ?_
  unfold Builtin.«sorted»
  refine wpAny_bind (m := checkCount "sorted" 1 1 _) (wpAny_pure ?_)
  refine wpAny_bind (wpAny_collect_seq l hT ho hc hdat (fun h1 hk1 => ?_) (by rw [List.size_toArray]; exact hz))
  rw [List.toList_toArray]
  refine wpAny_bind (wpAny_newList ?_ hz)
  have I1 : Inv X pins σ H { s with heap := h1 } := I.kept hk1
  have at1 : (h1.push (seqObj "list" its.toArray 0)).get? h1.objs.size = some (seqObj "list" its.toArray 0) := Heap.get?_push_size _ rfl
  have kp : ∀ b o, h1.get? b = some o → (sortingHeap (h1.push (seqObj "list" its.toArray 0)) h1.objs.size its).get? b = some o := fun b o e =>
    sortingHeap_old (Nat.ne_of_lt (Heap.lt_size e)) (Heap.get?_push_of_some _ e)
  have er : EachIs (fun v b => ∃ as, Reads (sortingHeap (h1.push (seqObj "list" its.toArray 0)) h1.objs.size its) v (enc b).py as) its bs := by
    have : ∀ {us : List Value} {cs : List β}, All2 (fun u b => VD X.K H0 u (enc b)) us cs → (∀ b ∈ cs, b ∈ bs) → All2 (fun v b => ∃ as, Reads (sortingHeap (h1.push (seqObj "list" its.toArray 0)) h1.objs.size its) v (enc b).py as) us cs := by
      intro us cs h
      induction h with
      | nil => intro _; exact .nil
      | cons h t ih =>
        intro m
        obtain ⟨as, hr⟩ := reads_vd I1 s0 (ok.plain _ (m _ (by simp))) h
        exact .cons ⟨as, PyProof.Rows.Reads.keeps kp hr⟩ (ih fun b hb => m b (by simp [hb]))
    exact each_all2 (this hv fun b hb => hb)
  have er2 : EachIs (fun v d => ∃ as, Reads (sortingHeap (h1.push (seqObj "list" its.toArray 0)) h1.objs.size its) v d as) its (bs.map fun b => (enc b).py) := by
    have : ∀ {us : List Value} {cs : List β}, EachIs (fun v b => ∃ as, Reads (sortingHeap (h1.push (seqObj "list" its.toArray 0)) h1.objs.size its) v (enc b).py as) us cs → EachIs (fun v d => ∃ as, Reads (sortingHeap (h1.push (seqObj "list" its.toArray 0)) h1.objs.size its) v d as) us (cs.map fun b => (enc b).py) := by
      intro us cs h
      induction h with
      | nil => exact .nil
      | cons h t ih => exact .cons h ih
    exact this er
  have hu : ∀ d ∈ bs.map fun b => (enc b).py, X.A.in1.in1.units + d.depth < cLine := fun d hd => by
    obtain ⟨b, hb, rfl⟩ := List.mem_map.mp hd
    exact ok.deep b hb
  have S := SortsAt.data (prog := X.prog) (w := X.w) (A := X.A.in1.in1) (s := { s with heap := sortingHeap (h1.push (seqObj "list" its.toArray 0)) h1.objs.size its }) er2 ok.alike ok.sort hu
  have hout : EachIs (fun u b => VD X.K H0 u (enc b)) (PySem.W.sortVals (dataKind (sortingHeap (h1.push (seqObj "list" its.toArray 0)) h1.objs.size its) (bs.map fun b => (enc b).py)) false its its) (bs.mergeSort (dataLe false fun b => (enc b).py)) :=
    PySem.W.sortVals_data false (each_all2 hv) er ok.alike
  have hol : (PySem.W.sortVals (dataKind (sortingHeap (h1.push (seqObj "list" its.toArray 0)) h1.objs.size its) (bs.map fun b => (enc b).py)) false its its).length = its.length := PySem.W.sortVals_length false rfl
  refine wpAny_bind (wpAny_holding (wpAny_call_entry PyProof.Rows.slot_list_sort ⟨_, at1, rfl⟩ PyProof.Rows.entry_list_sort
    (PySem.W.list_sort_vals (κ := dataKind (sortingHeap (h1.push (seqObj "list" its.toArray 0)) h1.objs.size its) (bs.map fun b => (enc b).py)) at1 S hz ⟨_, rfl, ?_⟩) (PyProof.Rows.args_list_sort _)))
  generalize PySem.W.sortVals (dataKind (sortingHeap (h1.push (seqObj "list" its.toArray 0)) h1.objs.size its) (bs.map fun b => (enc b).py)) false its its = out at hout hol
  obtain ⟨ep2, he2⟩ := PyProof.Rows.sortedHeap_at (vs := its) (out := out.toArray) at1
  have hmap : ∀ {us : List Value} {cs : List β}, EachIs (fun u b => VD X.K H0 u (enc b)) us cs → All2 (VD X.K H0) us (cs.map enc) := by
    intro us cs h
    induction h with
    | nil => exact .nil
    | cons h t ih => exact .cons h ih
  obtain ⟨ys, q1, q2⟩ := vd_to (hmap hout)
  refine wpAny_pure ⟨_, rfl, .ref h1.objs.size, upd H h1.objs.size (.lst ys), I1.laid (t' := s.toks) (fun b u e => ?_) (Nat.le_refl _) ⟨by rw [q1.length, hol]; exact hz, out, ep2, q1, he2⟩, rfl, q _ _ (I1.hok.fresh (Nat.le_refl _)) q2⟩
  have hlt := Heap.lt_size e
  rw [PyProof.Rows.sortedHeap_old (Nat.ne_of_lt hlt) (by rw [size_push']; exact Nat.lt_succ_of_lt hlt)]
  exact Heap.get?_push_of_some _ e
theorem eo_sortedD {e : Expr} {p : Pos} {d : D} (hs : Gl X "sorted") (hms : X.mg "sorted" = none) (hd : SeqD d (bs.map enc)) (he : ED X ρ e d) (ok : KeyOk X.A enc bs)
    (h3 : starEach [e] X.env = (false, eval e X.env) :: starEach [] X.env := by rfl) (h4 : (backTo pos (starEach [] X.env)).any (·.1) = false := by rfl) :
    EO X ρ (.Call (.Name "sorted" p) [e] [] pos) (.lst ((srtK enc bs).map enc)) := fun B0 B σ H0 H Q j kk => by
  refine RE.of (pe_callB (call_sortedD ok) hs hms bb_sorted (pa_cons pe_star pa_nil h3) (by decide) (by decide) h3 h4) ?_
  refine he B0 B σ H0 H _ j fun v G0 G g r => ?_
  have fin : ∀ p ys, G p = none → DRs X.K G0 ((srtK enc bs).map enc) ys → Q (.ref p) (upd G p (.lst ys)) := fun p ys hp rr =>
    kk p _ G0 _ (g.trans (JH.own g.sh hp)) upd_same (g.sh.free hp) (g.sB.free hp) ⟨ys, rfl, rr⟩
  cases hd with
  | lst =>
    obtain ⟨a, ys, rfl, h1, h2⟩ := r
    exact ⟨a, ys, G0, rfl, .inl (g.sh.seq h1), g.sh, h2, fin⟩
  | tup =>
    obtain ⟨a, ys, rfl, h1, h2⟩ := r
    exact ⟨a, ys, G0, rfl, .inr (Same.seqT g.sh h1), g.sh, h2, fin⟩
theorem c2_leS {i j : Str} : C2 X .LtE (.str i) (.str j) (.bl (!decide (j.cps.toList < i.cps.toList))) := ⟨_, op_le_str, fun H0 H x y Q s r1 r2 k => by
  cases (show x = .str i from r1); cases (show y = .str j from r2)
  exact ⟨i, j, rfl, rfl, k _ H0 H (JH.refl s) rfl⟩⟩
theorem bc_strI {i : Int} (h : i.natAbs.log2 < 1920) : BC X (.type "str") [.int i] (.str (toString i)) := bc_keep call_str_int _ (fun _ => rfl) fun _ _ vs _ _ r q => by
  obtain ⟨x, rfl, h1⟩ := r.one'
  cases (show x = .int i from h1)
  exact ⟨i, rfl, h, q⟩
/-- the signs of a text, each a text -/
def sgn (c : Nat) : Str := ⟨#[c]⟩
theorem id_str {tg e : Expr} {z : Str} (h : ED X ρ e (.str z)) : ID X ρ tg e (z.cps.toList.map fun c => .str (sgn c)) := fun B0 B σ H0 H R j k =>
  ⟨_, pi_str pe_star, h B0 B σ H0 H _ j fun v G0 G g r => ⟨z, r, k _ G0 G g ⟨_, _, (by rw [List.length_map, Array.length_toList]; exact walk_str (z := z)), fun _ _ _ _ => trivial, fun i H1 H x H' d hd s1 s2 y => by
    obtain ⟨rfl, c, hc, rfl⟩ := y
    rw [List.getElem?_map, Array.getElem?_toList, hc] at hd
    cases hd
    exact ⟨H1, JH.refl s2, rfl⟩⟩⟩⟩
theorem c2_inStr {x : Str} {ys : List Str} {d : D} (hd : SeqD d (ys.map D.str)) : C2 X .In (.str x) d (.bl (decide (x ∈ ys))) := ⟨_, op_in_seq, fun H0 H u v Q s r1 r2 k => by
  cases (show u = .str x from r1)
  have hf : (ys.map V.str).all flatV = true := by simp [flatV]
  have hi : inV (.str x) (ys.map V.str) = decide (x ∈ ys) := by
    unfold inV
    rw [Bool.eq_iff_iff]
    simp only [List.any_eq_true, List.mem_map, decide_eq_true_eq]
    constructor
    · rintro ⟨v, ⟨y, hy, rfl⟩, h⟩
      have : y = x := by simpa [eqV] using h
      exact this ▸ hy
    · intro h
      exact ⟨.str x, ⟨x, h, rfl⟩, by simp [eqV]⟩
  have fin : Q (.bl (if false = true then !inV (.str x) (ys.map V.str) else inV (.str x) (ys.map V.str))) H := by
    rw [hi]; exact k _ H0 H (JH.refl s) rfl
  cases hd with
  | lst =>
    obtain ⟨a, vs, rfl, h1, h2⟩ := r2
    rw [DRs.strs h2] at h1
    exact ⟨a, _, rfl, .inl (s.seq h1), rfl, hf, fin⟩
  | tup =>
    obtain ⟨a, vs, rfl, h1, h2⟩ := r2
    rw [DRs.strs h2] at h1
    exact ⟨a, _, rfl, .inr (Same.seqT s h1), rfl, hf, fin⟩⟩
end
end DL
namespace DL
open PySem PySem.Spec PyProof.Rows L2
local instance (priority := 2000) keyBEq : BEq Key := instBEqOfDecidableEq
/-- the keys, each once -/
def stepK (σ : List Key) (v : Key) : List Key := if v ∈ σ then σ else σ ++ [v]
def ddK (ks : List Key) : List Key := ks.foldl stepK []
theorem ddK_snoc (ks : List Key) (v : Key) : ddK (ks ++ [v]) = stepK (ddK ks) v := by
  unfold ddK; rw [List.foldl_append]; rfl
theorem snoc_ind {α : Type} {P : List α → Prop} (h0 : P []) (hs : ∀ l x, P l → P (l ++ [x])) : ∀ l, P l := fun l => by
  have : ∀ n, ∀ l : List α, l.length = n → P l := fun n => by
    induction n with
    | zero => intro l hl; rw [List.length_eq_zero_iff.mp hl]; exact h0
    | succ n ih =>
      intro l hl
      have hne : l ≠ [] := fun e => by rw [e] at hl; cases hl
      rw [← List.dropLast_concat_getLast hne]
      exact hs _ _ (ih _ (by rw [List.length_dropLast, hl]; rfl))
  exact this _ l rfl
theorem mem_ddK (k : Key) : ∀ ks : List Key, k ∈ ddK ks ↔ k ∈ ks := by
  refine snoc_ind (by simp [ddK]) fun ks v ih => ?_
  rw [ddK_snoc, List.mem_append]
  unfold stepK
  split
  · rename_i h
    rw [ih]
    constructor
    · exact .inl
    · rintro (h1 | h1)
      · exact h1
      · rw [List.mem_singleton] at h1; subst h1; exact ih.mp h
  · rw [List.mem_append, ih]
theorem ddK_len : ∀ ks : List Key, (ddK ks).length ≤ ks.length := by
  refine snoc_ind (by simp [ddK]) fun ks v ih => ?_
  rw [ddK_snoc, List.length_append]
  unfold stepK
  split
  · omega
  · rw [List.length_append]; simp only [List.length_cons, List.length_nil]; omega
theorem ddK_nodup : ∀ ks : List Key, ks.Nodup → (ddK ks).length = ks.length := by
  refine snoc_ind (by simp [ddK]) fun ks v ih h => ?_
  rw [List.nodup_append] at h
  rw [ddK_snoc, List.length_append]
  unfold stepK
  rw [if_neg, List.length_append, ih h.1]
  intro hv
  exact h.2.2 v ((mem_ddK v ks).mp hv) v (by simp) rfl
section
variable {P : Program} {w : World} {A : Around} {E : Value → Shared → Prop} {s : Shared}
theorem set_update_keys {I : Addr} {fp wr : List Addr} {G : Array GenState → Array GenState → Prop} {n : Nat} {Pv : Nat → Value → Prop} {St : Nat → Shared → Prop} {R : Result → Shared → Prop}
    (W : WalksS P w A.in1 I fp wr G n Pv St) (S : Addr) (hSf : S ∉ fp) (ks : List Key) (hn : n = ks.length) (hb : ks.length + 1 < scanBound) (hval : ∀ i v, Pv i v → ∃ k, ks[i]? = some k ∧ (mixKind P w).is k v = true ∧ v.scannable = true) :
    ∀ (k i : Nat) (s : Shared), n - i = k → i ≤ n → St i s → s.heap.SetOf (mixKind P w) S (fun j => decide (j ∈ ks.take i)) (ddK (ks.take i)).length →
      (∀ s', Moved (S :: wr) G s s' → s'.heap.SetOf (mixKind P w) S (fun j => decide (j ∈ ks)) (ddK ks).length → R (.ok (.ret .none)) s') →
      codeAny (model P w) A (.builtin "set.update.loop" ⟨[.ref S, .ref I], []⟩) R s := by
  have hSw : S ∉ wr := fun h => hSf (W.sub _ h)
  have hsub : ∀ b ∈ wr, b ∈ S :: wr := fun b hb => List.mem_cons_of_mem _ hb
  intro k
  induction k with
  | zero =>
    intro i s hk' hi hst hS hR
    have hin : i = n := by omega
    subst hin
    refine codeAny_builtin F.entry_set_update_loop ?_
    rw [Around.under_plainId F.plain_set_update_loop _]
    show wpAny _ A.in1 (pyNext (.ref I) >>= _) _ _ s
    refine wpAny_bind (W.done s _ _ hst fun s' hm => ?_)
    show wpAny _ A.in1 (ret Value.none) _ _ s'
    have e : ks.take i = ks := List.take_of_length_le (by omega)
    rw [e] at hS
    exact wpAny_pure (hR s' (hm.mono hsub) (setOf_at hS fun o e => hm.heap S o hSw e))
  | succ k ih =>
    intro i s hk' hi hst hS hR
    have hlt : i < n := by omega
    refine codeAny_builtin F.entry_set_update_loop ?_
    rw [Around.under_plainId F.plain_set_update_loop _]
    show wpAny _ A.in1 (pyNext (.ref I) >>= _) _ _ s
    refine wpAny_bind (W.item i s _ _ hlt hst fun v s' hP hst' hm => ?_)
    obtain ⟨z, hz, hkey, hsc⟩ := hval i v hP
    have hS' : s'.heap.SetOf (mixKind P w) S (fun j => decide (j ∈ ks.take i)) (ddK (ks.take i)).length := setOf_at hS fun o e => hm.heap S o hSw e
    show wpAny _ A.in1 (holding [v] (setAdd S v) >>= _) _ _ s'
    refine wpAny_bind (wpAny_holding ?_)
    unfold setAdd
    refine wpAny_holding ?_
    refine wpAny_bind ((mixKind P w).pyHash (k := z) hkey ?_)
    have hroom : (ddK (ks.take i)).length + 1 < scanBound := by
      have h1 := ddK_len (ks.take i)
      rw [List.length_take] at h1
      omega
    refine wpAny_setAddHashed_of (s := { s' with toks := s'.toks + 1 }) hkey hsc hS' hroom fun h' hsb hS2 => ?_
    have et : ks.take (i + 1) = ks.take i ++ [z] := by rw [List.take_add_one, hz]; rfl
    have hS3 : h'.SetOf (mixKind P w) S (fun j => decide (j ∈ ks.take (i + 1))) (ddK (ks.take (i + 1))).length := by
      refine SetOf_congr hS2 (fun j => ?_) ?_
      · rw [et]
        simp [List.mem_append]
      · rw [et, ddK_snoc]
        unfold stepK
        by_cases hm : z ∈ ks.take i
        · rw [if_pos (decide_eq_true hm), if_pos ((mem_ddK _ _).mpr hm)]
        · rw [if_neg (by simpa using hm), if_neg (fun q => hm ((mem_ddK _ _).mp q)), List.length_append]; rfl
    refine wpAny_pure ⟨plainId_quiet F.plain_set_update_loop _, ih (i + 1) _ (by omega) hlt (W.frame _ s' _ _ hst' (Nat.le_succ _) fun b hb o e => ?_) hS3 fun s'' hm'' hS'' => ?_⟩
    · rw [hsb.2 b (fun h : b = S => hSf (by rw [← h]; exact hb))]; exact e
    · refine hR s'' (Moved.trans W.gtrans ((hm.mono hsub).then_heap (Nat.le_succ _) fun b o hb e => ?_) hm'') hS''
      rw [hsb.2 b (fun h : b = S => hb (by rw [h]; exact List.mem_cons_self))]; exact e
/-- the values are the keys -/
def KeysAre (P : Program) (w : World) (us : List Value) (ks : List Key) : Prop := us.length = ks.length ∧ ∀ (i : Nat) u, us[i]? = some u → ∃ k, ks[i]? = some k ∧ (mixKind P w).is k u = true ∧ u.scannable = true
theorem set_of_keys {p : Addr} {its : Array Value} (ks : List Key) {Q : Value → Shared → Prop} (quiet : A.handled = none) (isl : s.heap.IsList p its) (hks : KeysAre P w its.toList ks) (few : ks.length + 1 < scanBound)
    (fin : ∀ (g : Heap) (tk : Nat), g.SetOf (mixKind P w) s.heap.objs.size (fun j => decide (j ∈ ks)) (ddK ks).length → (∀ b o, s.heap.get? b = some o → g.get? b = some o) → Q (.ref s.heap.objs.size) { s with heap := g, toks := tk }) : wpAny (model P w) A (call (.type "set") [.ref p]) Q E s := by
  have size : its.size = ks.length := by rw [← hks.1, Array.length_toList]
  have f1 := F.called_set.made
  have f2 := F.called_set.sub
  have f3 := F.called_set.notType
  have f4 := F.called_set.canCreate
  have f5 := F.typeCall_set_1 (.ref p)
  obtain ⟨_, _, f6⟩ := F.called_set.mro
  refine wpAny_call (codeAny_of_tree (?_ : wpAny _ _ (callAny (.type "set") _) _ _ _))
  refine wpAny_pure ⟨Code.quiet_builtin _ (by decide +kernel), codeAny_builtin F.entry_type_call ?_⟩
  rw [Around.under_plain (weight_type_call_type "set" [.ref p] []) rfl]
  repeat (any_goals (first | assumption | wp_step))
  refine codeAny_mono (code_set_led1 (.ref p) (E := E) (Q₁ := fun v t => v = .ref s.heap.objs.size ∧ t = { s with heap := s.heap.push (nSet w) }) ⟨rfl, rfl⟩) fun r1 t1 e1 => ?_
  rcases r1 with r1 | r1
  · exact e1
  cases r1 with
  | ret v =>
    obtain ⟨rfl, rfl⟩ := e1
    have at0 : (s.heap.push (nSet w)).get? s.heap.objs.size = some (nSet w) := Heap.get?_push_size _ rfl
    have ty : Shared.TypeIs { s with heap := s.heap.push (nSet w) } (.ref s.heap.objs.size) "set" := ⟨_, at0, rfl⟩
    have f7 := F.called_set.init.lookup
    have f8 := F.called_set.init.bind (.ref s.heap.objs.size)
    repeat (any_goals (first | assumption | wp_step))
    refine codeAny_mono (codeAny_call_builtin (R := wants (fun v t => v = .none ∧ ∃ g tk, t = { s with heap := g, toks := tk } ∧ g.SetOf (mixKind P w) s.heap.objs.size (fun j => decide (j ∈ ks)) (ddK ks).length ∧ ∀ b o, s.heap.get? b = some o → g.get? b = some o) E) F.called_set.init.plain F.entry_set_init (check_set_init_1 ty ?_)) fun r2 t2 e2 => ?_
    · obtain ⟨⟨c0, d0, dat, sl⟩, ho, hc, n0, hd⟩ := isl
      simp only at hc hd
      subst hc hd
      have there : (s.heap.push (nSet w)).get? p = some { cls := .type "list", dict := d0, data := .seq its n0, slots := sl } := Heap.get?_push_of_some _ ho
      have g1 := F.sub_list_set
      have g2 := F.sub_list_frozenset
      have g3 : (Value.type "list" == Value.type "dict") = false := by decide
      have isl2 : (s.heap.push (nSet w)).IsList p its := ⟨_, there, rfl, n0, rfl⟩
      unfold Builtin.«set.__init__» noKeywords Builtin.Frozenset.updateFrom
      generalize hI : pyIter = IT
      wp_walk
      subst hI
      refine wpAny_pyIter_list isl2 (wpAny_bind (wpAny_runValue ?_))
      have old : p < s.heap.objs.size := Heap.lt_size ho
      have it0 : (s.heap.push (nSet w)).objs.size = s.heap.objs.size + 1 := Heap.size_push ..
      have quiet3 : A.in1.in1.in1.handled = none := by simp [quiet]
      have apart : p ≠ (s.heap.push (nSet w)).objs.size := fun e => Nat.ne_of_lt (Nat.lt_succ_of_lt old) (e.trans it0)
      have outside : s.heap.objs.size ∉ [(s.heap.push (nSet w)).objs.size, p] := by
        intro z
        simp only [List.mem_cons, List.not_mem_nil, or_false] at z
        rcases z with z | z
        · exact Nat.ne_of_lt (Nat.lt_succ_self _) (z.trans it0)
        · exact Nat.ne_of_gt old z
      have new : ((s.heap.push (nSet w)).push { cls := .type "list_iterator", data := .fields #[.ref p, .int 0 0] }).SetOf (mixKind P w) s.heap.objs.size (fun j => decide (j ∈ ks.take 0)) (ddK (ks.take 0)).length :=
        ⟨_, #[], 0, _, Heap.get?_push_of_some _ at0, ⟨rfl, rfl, rfl⟩, rfl, (fun e he => by simp at he), (fun k => by simp), (by decide), (by rfl), rfl⟩
      refine set_update_keys ((Walks.list quiet3 _ p apart its).toS) s.heap.objs.size outside ks size few (fun i v hv => ?_) (its.size - 0) 0 _ (by omega) (Nat.zero_le _) ⟨⟨_, Heap.get?_push_size _ rfl, rfl, rfl⟩, isl2.push _⟩ new fun t3 mv fin3 => ?_
      · exact hks.2 i v (by rw [Array.getElem?_toList]; exact hv)
      · obtain ⟨g, gs, dr, tk, os⟩ := t3
        obtain rfl : gs = s.gens := mv.gens
        obtain rfl : dr = s.drawn := mv.drawn
        obtain rfl : os = s.os := mv.os
        show wpAny _ _ _ _ _ _
        refine wpAny_pure (?_ : wpAny _ _ (ret Value.none) _ _ _)
        refine wpAny_pure ⟨rfl, g, tk, rfl, fin3, fun b o e => mv.heap b o (fun z => ?_) (Heap.get?_push_of_some _ (Heap.get?_push_of_some _ e))⟩
        have hb := Heap.lt_size e
        simp only [List.mem_cons, List.not_mem_nil, or_false] at z
        rcases z with z | z
        · exact Nat.ne_of_lt hb z
        · exact Nat.ne_of_lt (Nat.lt_succ_of_lt hb) (z.trans it0)
    · rcases r2 with r2 | r2
      · exact e2
      cases r2 with
      | ret v =>
        obtain ⟨rfl, g, tk, rfl, h1, h3⟩ := e2
        repeat (any_goals (first | assumption | wp_step))
        exact fin _ _ h1 h3
      | _ => exact e2.elim
  | _ => exact e1.elim
end
theorem keys_are {P : Program} {w : World} : ∀ {ks : List Key} {us : List Value}, Vals (ks.map kV) us → KeysAre P w us ks
  | [], us, r => by cases r; exact ⟨rfl, fun i u h => by simp at h⟩
  | k :: ks, us, r => by
    cases r with
    | cons r1 r2 =>
      have ih := keys_are (P := P) (w := w) r2
      refine ⟨by simp [ih.1], fun i u h => ?_⟩
      cases i with
      | zero =>
        simp only [List.getElem?_cons_zero, Option.some.injEq] at h ⊢
        subst h
        exact ⟨k, rfl, kV_is r1, key_scan r1⟩
      | succ i =>
        simp only [List.getElem?_cons_succ] at h ⊢
        exact ih.2 i u h
/-- an int, a text as a key -/
def kD : Key → D
  | .inl i => .int i
  | .inr x => .str x
theorem kD_val {K : PySem.W.Frag} {H : Hp} {k : Key} {v : V} (h : DR K H (kD k) v) : v = kV k := by
  cases k with
  | inl i => exact h
  | inr x => exact h
theorem kDs_val {K : PySem.W.Frag} {H : Hp} : ∀ {ks : List Key} {vs : List V}, DRs K H (ks.map kD) vs → vs = ks.map kV
  | [], vs, h => h
  | k :: ks, vs, h => by
    obtain ⟨v, r, rfl, h2, h3⟩ := h
    rw [kD_val h2, kDs_val h3]; rfl
section
variable {X : Cx} {ρ : En} {pos : Pos}
theorem call_setK (hc : X.calm = true) : CallR X (.type "set") (fun vs H Q => ∃ (l : Addr) (ks : List Key), vs = [.ref l] ∧ SqL X.K H l (ks.map kV) ∧ ks.length + 1 < scanBound ∧ ∀ p, H p = none → Q (.ref p) (upd H p (SetK X.prog X.w p (fun j => decide (j ∈ ks)) (ddK ks).length))) := by
  intro pins s σ H vs us Q I r h
  obtain ⟨l, ks, rfl, hs, few, q⟩ := h
  rw [Vals.ref1 r]
  obtain ⟨its, rv, pl, hz⟩ := I.list hs
  refine set_of_keys ks (I.ok.hd hc) pl.isList (by simpa using keys_are rv) few fun g tk hS hk => ?_
  exact ⟨.ref _, _, I.laid (t' := tk) hk (Nat.le_refl _) (setK_new hS), rfl, q _ (I.hok.fresh (Nat.le_refl _))⟩
theorem call_lenK : CallR X (.builtin "len") (fun vs H Q => ∃ (a : Addr) (S : Key → Bool) (n : Nat), vs = [.ref a] ∧ H a = some (SetK X.prog X.w a S n) ∧ Q (.int (n : Nat)) H) := by
  intro pins s σ H vs us Q I r h
  obtain ⟨a, S, n, rfl, ha, q⟩ := h
  rw [Vals.ref1 r]
  obtain ⟨o, es, ep, t, ho, hex, hd, _, _, hb, hf, hn⟩ := setK_get I ha
  refine call_len_set ho hex hd hf (by unfold scanBound at hb; omega) ⟨.int (n : Nat), H, I.tok _, ⟨_, by rw [hn]⟩, q⟩
/-- len(set(e)) -/
theorem ed_lenSetK {e : Expr} {ks : List Key} {p1 p2 q : Pos} (hc : X.calm = true) (hs : Gl X "len") (hms : X.mg "len" = none) (ht : Gl X "set") (hmt : X.mg "set" = none) (he : ED X ρ e (.lst (ks.map kD))) (few : ks.length + 1 < 4096)
    (h1 : starEach [e] X.env = (false, eval e X.env) :: starEach [] X.env := by rfl) (h2 : (backTo q (starEach [] X.env)).any (·.1) = false := by rfl)
    (h3 : starEach [.Call (.Name "set" p2) [e] [] q] X.env = (false, eval (.Call (.Name "set" p2) [e] [] q) X.env) :: starEach [] X.env := by rfl) (h4 : (backTo pos (starEach [] X.env)).any (·.1) = false := by rfl) :
    ED X ρ (.Call (.Name "len" p1) [.Call (.Name "set" p2) [e] [] q] [] pos) (.int ((ddK ks).length : Nat)) := fun B0 B σ H0 H Q j k => by
  refine RE.of (pe_callB call_lenK hs hms bb_len (pa_cons (pe_callTy (call_setK hc) ht hmt bb_set (pa_cons pe_star pa_nil h1) (by decide) (by decide) h1 h2) pa_nil h3) (by decide) (by decide) h3 h4) ?_
  refine he B0 B σ H0 H _ j fun v G0 G g r => ?_
  obtain ⟨l, vs, rfl, hS, rr⟩ := r
  rw [kDs_val rr] at hS
  refine ⟨l, ks, rfl, g.sh.seq hS, few, fun p hp => ?_⟩
  exact ⟨p, _, _, rfl, upd_same, k _ G0 _ (g.trans (JH.own g.sh hp)) rfl⟩
end
end DL
namespace DL
open PySem PySem.Spec PyProof.Rows L2
section
variable {X : Cx} {ρ : En} {pos : Pos}
theorem ptp_tup {K : PySem.W.Frag} {H : Hp} {ds : List D} {v : V} (h : DR K H (.ptp ds) v) : DR K H (.tup ds) v := by
  obtain ⟨a, o, vs, h1, h2, h4, h3⟩ := h
  exact ⟨a, vs, h1, .inl (.inr ⟨o, h2⟩), h3⟩
theorem call_tupleX : CallR X (.type "tuple") (fun xs H Q => ∃ p ys, xs = [.ref p] ∧ SqL X.K H p ys ∧ ∀ l o, o.dict = none → H l = none → Q (.ref l) (upd H l (.frz o (.tup ys)))) := by
  intro pins s σ H xs us Q I r h
  obtain ⟨p, ys, rfl, hq, q⟩ := h
  obtain ⟨u, rfl, rx⟩ := vals1 r
  cases rx
  obtain ⟨its, r', pl, hz⟩ := I.list hq
  have hlen := r'.length
  refine call_tuple_list pl.isList (fun h' kp => ?_) (by simp only [List.size_toArray] <;> omega)
  have I1 : Inv X pins σ H { s with heap := h' } := I.kept (t' := s.toks) kp
  have I2 : Inv X pins σ (upd H h'.objs.size (.frz { cls := .type "tuple", data := .seq its.toArray } (.tup ys))) { s with heap := h'.push { cls := .type "tuple", data := .seq its.toArray } } :=
    I1.laid (t' := s.toks) (fun b o e => Heap.get?_push_of_some _ e) (Nat.le_refl _) (show ObjOk X.prog X.w _ _ _ (.frz _ (.tup ys)) from ⟨Heap.get?_push_size _ rfl, hz, its, r', IsTup.new _ _⟩)
  exact ⟨.ref h'.objs.size, _, I2, rfl, q _ _ rfl (I1.hok.fresh (Nat.le_refl _))⟩
/-- tuple(e), e a list -/
theorem ed_tupX {e : Expr} {ds : List D} {p : Pos} (ht : Gl X "tuple") (hmt : X.mg "tuple" = none) (he : ED X ρ e (.lst ds))
    (h1 : starEach [e] X.env = (false, eval e X.env) :: starEach [] X.env := by rfl) (h2 : (backTo pos (starEach [] X.env)).any (·.1) = false := by rfl) :
    ED X ρ (.Call (.Name "tuple" p) [e] [] pos) (.ptp ds) := fun B0 B σ H0 H Q j k => by
  refine RE.of (pe_callTy call_tupleX ht hmt bb_tuple (pa_cons pe_star pa_nil h1) (by decide) (by decide) h1 h2) (he B0 B σ H0 H _ j fun v G0 G g r => ?_)
  obtain ⟨l, vs, rfl, hS, rr⟩ := r
  refine ⟨l, vs, rfl, g.sh.seq hS, fun p o ho hp => ?_⟩
  have g2 : JH G0 G (upd G0 p (.frz o (.tup vs))) (upd G p (.frz o (.tup vs))) := JH.new g.sh hp
  exact k _ _ _ (g.trans g2) ⟨p, o, vs, rfl, upd_same, ho, DRs.mono g2.s0 _ _ rr⟩
theorem call_dictX (hcalm : X.calm = true) : CallR X (.type "dict") (fun xs H Q => ∃ (a : Addr) (o : Obj) (ps : List Addr) (kvs : List (Key × V)), xs = [.ref a] ∧ H a = some (.frz o (.tup (ps.map V.ref))) ∧ o.dict = none ∧ Paired (fun p kv => SqT X.K H p [kV kv.1, kv.2]) ps kvs ∧
    ∀ p, H p = none → Q (.ref p) (upd H p (.dK (mergeK [] kvs)))) := by
  intro pins s σ H xs us Q I r q
  obtain ⟨a, o, ps, kvs, ex, hq, hdn, hp, q⟩ := q
  subst ex
  obtain ⟨u, eu, rx⟩ := vals1 r
  subst eu
  cases rx
  obtain ⟨hget, hz, its, rv, o', ho', hc', n', hd'⟩ := (show ObjOk X.prog X.w H s.heap a (.frz o (.tup (ps.map V.ref))) from I.hok a _ hq)
  rw [hget] at ho'; cases ho'
  have ei := refs_at rv
  subst ei
  rw [List.length_map] at hz
  obtain ⟨prs, rel, hl, hpr⟩ := L2.pairs_of I hp
  have hall : ∃ us : List (Value × Value), us.length = prs.length ∧ ∀ (i : Nat) (k v : Value), us[i]? = some (k, v) → ∃ (b : Addr) (q' : Key × Value), ps[i]? = some b ∧ prs[i]? = some q' ∧ q'.2 = v ∧ IsTup s.heap b #[k, v] ∧ (mixKind X.prog X.w).is q'.1 k = true := by
    have ex : ∀ i : Nat, ∃ x : Value × Value, i < prs.length → ∃ (b : Addr) (q' : Key × Value), ps[i]? = some b ∧ prs[i]? = some q' ∧ q'.2 = x.2 ∧ IsTup s.heap b #[x.1, x.2] ∧ (mixKind X.prog X.w).is q'.1 x.1 = true := fun i => by
      by_cases h : i < prs.length
      · obtain ⟨b, u, e1, e2, e3⟩ := hpr i prs[i] (by simp [h])
        exact ⟨(u, prs[i].2), fun _ => ⟨b, prs[i], e1, by simp [h], rfl, e2, e3⟩⟩
      · exact ⟨(.none, .none), fun z => absurd z h⟩
    let f := fun i => Classical.choose (ex i)
    have hf := fun i => Classical.choose_spec (ex i)
    refine ⟨(List.range prs.length).map f, by simp, fun i k v hi => ?_⟩
    have hlt : i < prs.length := by have := (List.getElem?_eq_some_iff.mp hi).1; simpa using this
    have e : f i = (k, v) := by
      simp [List.getElem?_map, List.getElem?_range hlt] at hi
      exact hi
    obtain ⟨b, q', e1, e2, e3, e4, e5⟩ := hf i hlt
    rw [show Classical.choose (ex i) = (k, v) from e] at e3 e4 e5
    exact ⟨b, q', e1, e2, e3, e4, e5⟩
  obtain ⟨us, hul, hus⟩ := hall
  have hps : us.length = ps.length := by rw [hul, hl]
  refine PySem.call_dict_pairs (knd := mixKind X.prog X.w) (kvs := prs) (PairArg.tuple a (ps.map Value.ref).toArray (fun i => ps.getD i 0) us) (I.ok.hd hcalm) ⟨⟨o, n', hget, hc', hdn, hd'⟩, by simp [hps], fun i k v hi => ?_⟩ ⟨hul.symm, fun i k v hi => ?_⟩ (by rw [hps]; exact hz) fun h' tk hd' k => ?_
  · obtain ⟨b, q', e1, e2, e3, e4, e5⟩ := hus i k v hi
    refine ⟨by simp [e1], .inl ?_⟩
    show s.heap.IsTuple (ps.getD i 0) #[k, v]
    rw [show ps.getD i 0 = b by simp [List.getD_eq_getElem?_getD, e1]]
    obtain ⟨ot, h1, h2, n2, h3⟩ := e4
    exact ⟨ot, h1, h2, n2, h3⟩
  · obtain ⟨b, q', e1, e2, e3, e4, e5⟩ := hus i k v hi
    exact ⟨q'.1, by rw [e2, ← e3], e5⟩
  · have hm : (s.heap.objs.size == sysModules) = false := beq_eq_false_iff_ne.mpr (Nat.ne_of_gt I.big)
    have hlen : (mergeK [] kvs).length ≤ sizeLine := by
      refine Nat.le_trans (length_mergeK kvs []) ?_
      rw [List.length_nil, Nat.zero_add, rel.length, hl]
      exact hz
    exact ⟨.ref s.heap.objs.size, upd H s.heap.objs.size (.dK (mergeK [] kvs)), I.laid (t' := tk) (fun b o e => k b o (by simp) e) (Nat.le_refl _) (show ObjOk X.prog X.w _ _ _ (.dK (mergeK [] kvs)) from ⟨hlen, hm, merged [] prs, KV.merge rel .nil, hd'⟩), rfl, q _ (I.hok.fresh (Nat.le_refl _))⟩
end
theorem mergeK_new : ∀ {kvs acc : List (Key × V)}, ((acc ++ kvs).map (·.1)).Nodup → mergeK acc kvs = acc ++ kvs
  | [], acc, _ => by unfold mergeK; simp
  | kv :: kvs, acc, h => by
    have hn : kv.1 ∉ acc.map (·.1) := by
      rw [List.map_append, List.nodup_append] at h
      exact fun z => h.2.2 _ z kv.1 (by simp) rfl
    have e : putK acc kv.1 kv.2 = acc ++ [kv] := putK_new _ (by
      cases q : valV acc kv.1 with
      | none => rfl
      | some v =>
        exact absurd (valV_in q) hn)
    have : mergeK acc (kv :: kvs) = mergeK (putK acc kv.1 kv.2) kvs := rfl
    rw [this, e, mergeK_new (by rw [List.append_assoc]; exact h), List.append_assoc]
    rfl
def prD (q : Key × D) : D := .tup [kD q.1, q.2]
theorem prs_of {K : PySem.W.Frag} {H : Hp} : ∀ {kds : List (Key × D)} {vs : List V}, DRs K H (kds.map prD) vs → ∃ (ps : List Addr) (ws : List V), vs = ps.map V.ref ∧ ws.length = kds.length ∧ Paired (fun p (kv : Key × V) => SqT K H p [kV kv.1, kv.2]) ps ((kds.map (·.1)).zip ws) ∧ DRs K H (kds.map (·.2)) ws
  | [], vs, h => by cases (show vs = [] from h); exact ⟨[], [], rfl, rfl, .nil, rfl⟩
  | q :: kds, vs, h => by
    obtain ⟨v, r, rfl, ⟨a, us, rfl, h1, h2⟩, h3⟩ := h
    obtain ⟨x, y, rfl, h4, h5⟩ := h2.two
    obtain ⟨ps, ws, rfl, hl, hp, hd⟩ := prs_of h3
    rw [kD_val h4] at h1
    exact ⟨a :: ps, y :: ws, rfl, by simp [hl], .cons h1 hp, y, ws, rfl, h5, hd⟩
theorem Paired.mono {α β : Type} {R R' : α → β → Prop} (m : ∀ a b, R a b → R' a b) : ∀ {as : List α} {bs : List β}, Paired R as bs → Paired R' as bs
  | _, _, .nil => .nil
  | _, _, .cons h t => .cons (m _ _ h) (Paired.mono m t)
section
variable {X : Cx} {ρ : En} {pos : Pos}
/-- dict(t), t a tuple of pairs, the keys each once -/
theorem eo_dictP {e : Expr} {p : Pos} {kds : List (Key × D)} (hc : X.calm = true) (ht : Gl X "dict") (hmt : X.mg "dict" = none) (nd : (kds.map (·.1)).Nodup) (he : ED X ρ e (.ptp (kds.map prD)))
    (h1 : starEach [e] X.env = (false, eval e X.env) :: starEach [] X.env := by rfl) (h2 : (backTo pos (starEach [] X.env)).any (·.1) = false := by rfl) :
    EO X ρ (.Call (.Name "dict" p) [e] [] pos) (.dk (kds.map (·.1)) (kds.map (·.2))) := fun B0 B σ H0 H Q j k => by
  refine RE.of (pe_callTy (call_dictX hc) ht hmt bb_dict (pa_cons pe_star pa_nil h1) (by decide) (by decide) h1 h2) (he B0 B σ H0 H _ j fun v G0 G g r => ?_)
  obtain ⟨a, o, vs, rfl, hS, ho, rr⟩ := r
  obtain ⟨ps, ws, rfl, hl, hp, hd⟩ := prs_of rr
  have hfst : ((kds.map (·.1)).zip ws).map (·.1) = kds.map (·.1) := List.map_fst_zip (by simp [hl])
  refine ⟨a, o, ps, (kds.map (·.1)).zip ws, rfl, g.sh _ _ hS, ho, Paired.mono (fun p kv h => Same.seqT g.sh h) hp, fun p hp => ?_⟩
  rw [mergeK_new (acc := []) (by rw [List.nil_append, hfst]; exact nd), List.nil_append]
  exact k p _ G0 _ (g.trans (JH.own g.sh hp)) upd_same (g.sh.free hp) (g.sB.free hp) ⟨ws, rfl, by simp [hl], hd⟩
/-- z[lo:hi], z a text -/
theorem ed_sliceS {e : Expr} {lo hi : Option Expr} {p q : Option Int} {z : Str} {p2 : Pos} (he : ED X ρ e (.str z)) (hz : z.length ≤ sizeLine) (hl : Part X ρ lo p) (hh : Part X ρ hi q) : ED X ρ (.Subscript e (.Slice lo hi none p2) pos) (.str (cutS z p q)) := fun B0 B σ H0 H Q j k =>
  RE.of (pe_slice sl_str pe_star po_star po_star) (he B0 B σ H0 H _ j fun v G0 G g1 r => hl.run (j.grow g1) fun L0 L g2 => hh.run ((j.grow g1).grow g2) fun M0 M g3 =>
    ⟨z, r, hz, k _ M0 M ((g1.trans g2).trans g3) rfl⟩)
/-- t[lo:hi], t a tuple -/
theorem ed_sliceT {e : Expr} {lo hi : Option Expr} {p q : Option Int} {ds : List D} {p2 : Pos} (he : ED X ρ e (.tup ds)) (hl : Part X ρ lo p) (hh : Part X ρ hi q) : ED X ρ (.Subscript e (.Slice lo hi none p2) pos) (.tup (cutD ds p q)) := fun B0 B σ H0 H Q j k =>
  RE.of (pe_slice sl_tupA pe_star po_star po_star) (he B0 B σ H0 H _ j fun v G0 G g1 r => hl.run (j.grow g1) fun L0 L g2 => hh.run ((j.grow g1).grow g2) fun M0 M g3 => by
    obtain ⟨a, vs, rfl, h1, h2⟩ := r
    have g := g2.trans g3
    have h2' := DRs.mono g.s0 _ _ h2
    have h1' := Same.seqT (g.sh) (Same.seqT g.s0 h1)
    refine ⟨a, vs, rfl, h1', fun hw => k _ M0 M (g1.trans g) ⟨a, _, rfl, Same.seqT g.s0 h1, by
      have e : cutD ds p q = ds := by
        unfold cutD
        rw [DRs.length h2', hw.1, hw.2, List.drop_zero, Nat.sub_zero, ← DRs.length h2', List.take_length]
      rw [e]; exact h2'⟩, fun hw pp hp => ?_⟩
    have g4 : JH M0 M (upd M0 pp (.tup (cutV vs p q))) (upd M pp (.tup (cutV vs p q))) := JH.new g.sh hp
    exact k _ _ _ ((g1.trans g).trans g4) ⟨pp, _, rfl, SqT.of upd_same, DRs.mono g4.s0 _ _ (DRs.cut h2' _ _)⟩)
end
end DL
namespace DL
open PySem PySem.Spec PyProof.Rows L2
section
variable {X : Cx} {ρ : En} {pos : Pos} {a b c d : Expr}
def tChain3 (r r' r'' : R2) (ta tb tc td : TE) : TE := fun σ H Q => ta σ H fun x H1 => tb σ H1 fun y H2 => r x y H2 fun z H3 => ∃ k, z = .bl k ∧
  (if k = true then tc σ H3 fun u H4 => r' y u H4 fun z' H5 => ∃ k', z' = .bl k' ∧ (if k' = true then td σ H5 fun v H6 => r'' u v H6 Q else Q (.bl false) H5) else Q (.bl false) H3)
theorem pe_chain3 {op op' op'' : CmpOp} {r r' r'' : R2} {ta tb tc td : TE} (ho : OpR X (compareOp op) r) (ho' : OpR X (compareOp op') r') (ho'' : OpR X (compareOp op'') r'') (ha : PE X a ta) (hb : PE X b tb) (hc : PE X c tc) (hd : PE X d td)
    (hm : lastMarks [op, op', op''] [b, c, d] = false := by with_unfolding_all rfl) : PE X (.Compare a [op, op', op''] [b, c, d] pos) (tChain3 r r' r'' ta tb tc td) := by
  refine ⟨fun pins s σ H Q I h => ?_⟩
  refine Compare_chain (thn (ha.run pins s σ H _ I h) fun v s1 ⟨x, H1, I1, r1, q1⟩ => chain_link (thn (hb.run pins s1 σ H1 _ I1 q1) fun u s2 ⟨y, H2, I2, r2, q2⟩ =>
    thn (ho pins s2 σ H2 x y v u _ I2 r1 r2 q2) fun d s3 ⟨z, H3, I3, r3, k, e, q3⟩ => ?_)) hm
  subst e
  cases r3
  refine wpAny_truthy_bool ?_
  cases k with
  | false => exact ite_ff ⟨.bl false, H3, I3, rfl, q3⟩
  | true =>
    refine ite_tt (chain_link (thn (hc.run pins s3 σ H3 _ I3 q3) fun w' s4 ⟨z', H4, I4, r4, q4⟩ => thn (ho' pins s4 σ H4 y z' u w' _ I4 r2 r4 q4) fun d5 s5 ⟨z5, H5, I5, r5, k5, e5, q5⟩ => ?_))
    subst e5
    cases r5
    refine wpAny_truthy_bool ?_
    cases k5 with
    | false => exact ite_ff ⟨.bl false, H5, I5, rfl, q5⟩
    | true => exact ite_tt (chain_last (thn (hd.run pins s5 σ H5 _ I5 q5) fun w6 s6 ⟨z6, H6, I6, r6, q6⟩ => ho'' pins s6 σ H6 z' z6 w' w6 Q I6 r4 r6 q6))
theorem ed_chain3 {op op' op'' : CmpOp} {d1 d2 d3 d4 : D} {k k' k'' : Bool} (ha : ED X ρ a d1) (hb : ED X ρ b d2) (hc : ED X ρ c d3) (hd : ED X ρ d d4) (ho : C2 X op d1 d2 (.bl k)) (ho' : C2 X op' d2 d3 (.bl k')) (ho'' : C2 X op'' d3 d4 (.bl k'')) (hm : lastMarks [op, op', op''] [b, c, d] = false := by with_unfolding_all rfl) :
    ED X ρ (.Compare a [op, op', op''] [b, c, d] pos) (.bl (k && (k' && k''))) := fun B0 B σ H0 H Q j kk => by
  obtain ⟨r, h1, h2⟩ := ho
  obtain ⟨r', h1', h2'⟩ := ho'
  obtain ⟨r'', h1'', h2''⟩ := ho''
  refine RE.of (pe_chain3 h1 h1' h1'' pe_star pe_star pe_star pe_star hm) (ha B0 B σ H0 H _ j fun x G0 G g1 r1 => ?_)
  refine hb B0 B σ G0 G _ (j.grow g1) fun y L0 L g2 r2 => ?_
  refine h2 L0 L x y _ g2.sh (DR.mono g2.s0 _ _ r1) r2 fun v M0 M g3 r3 => ⟨k, r3, ?_⟩
  cases k with
  | false => exact iteF (kk _ M0 M ((g1.trans g2).trans g3) rfl)
  | true =>
    refine iteT (hc B0 B σ M0 M _ (((j.grow g1).grow g2).grow g3) fun z N0 N g4 r4 => ?_)
    refine h2' N0 N y z _ g4.sh (DR.mono (g3.trans g4).s0 _ _ r2) r4 fun v P0 P g5 r5 => ⟨k', r5, ?_⟩
    have gg := ((g1.trans g2).trans (g3.trans g4)).trans g5
    cases k' with
    | false => exact iteF (kk _ P0 P gg (by show V.bl false = V.bl (true && (false && k'')); rfl))
    | true =>
      refine iteT (hd B0 B σ P0 P _ (j.grow gg) fun z6 R0 R g6 r6 => ?_)
      exact h2'' R0 R z z6 Q g6.sh (DR.mono (g5.trans g6).s0 _ _ r4) r6 fun v S0 S g7 r7 => kk v S0 S (gg.trans (g6.trans g7)) (by simpa using r7)
end
theorem one_lt (a b : Nat) : (([a] : List Nat) < [b]) ↔ a < b := by
  constructor
  · intro h
    cases h with
    | rel h => exact h
    | cons h => cases h
  · exact fun h => List.Lex.rel h
theorem chX {x y : Str} {lo hi : Nat} (e1 : x.cps.toList = [lo]) (e2 : y.cps.toList = [hi]) (c : Nat) : ((!decide ((⟨#[c]⟩ : Str).cps.toList < x.cps.toList)) && (!decide (y.cps.toList < (⟨#[c]⟩ : Str).cps.toList))) = (decide (lo ≤ c) && decide (c ≤ hi)) := by
  rw [Bool.eq_iff_iff]
  simp only [Bool.and_eq_true, Bool.not_eq_true', decide_eq_false_iff_not, decide_eq_true_eq]
  rw [e1, e2]
  show ¬ (([c] : List Nat) < [lo]) ∧ ¬ (([hi] : List Nat) < [c]) ↔ _
  rw [one_lt, one_lt]
  omega
theorem chA (c : Nat) : ((!decide ((⟨#[c]⟩ : Str).cps.toList < (PySem.Str.ofString "a").cps.toList)) && (!decide ((PySem.Str.ofString "z").cps.toList < (⟨#[c]⟩ : Str).cps.toList))) = (decide (97 ≤ c) && decide (c ≤ 122)) :=
  chX (by decide +kernel) (by decide +kernel) c
theorem ch0 (c : Nat) : ((!decide ((⟨#[c]⟩ : Str).cps.toList < (PySem.Str.ofString "0").cps.toList)) && (!decide ((PySem.Str.ofString "9").cps.toList < (⟨#[c]⟩ : Str).cps.toList))) = (decide (48 ≤ c) && decide (c ≤ 57)) :=
  chX (by decide +kernel) (by decide +kernel) c
end DL
namespace DL
open PySem PySem.Spec PyProof.Rows L2
section
variable {X : Cx} {ρ : En} {pos : Pos}
theorem bc_intB {k : Bool} : BC X (.type "int") [.bl k] (.int (if k = true then 1 else 0)) := bc_keep call_int1 _ (fun _ => rfl) fun _ _ vs _ _ r q => by
  obtain ⟨x, rfl, h⟩ := r.one'
  cases (show x = .bl k from h)
  exact .inr ⟨k, rfl, by cases k <;> exact q⟩
theorem bo_sorted2 {x y : Int} : BO X (.builtin "sorted") [.lst [.int x, .int y]] (.lst [.int (min x y), .int (max x y)]) := by
  have h := bo_sortedI (X := X) (ns := [x, y])
  have e : srtI [x, y] = [min x y, max x y] := by
    refine (srtI_eq ?_ ?_).symm
    · by_cases h : x ≤ y
      · rw [Int.min_eq_left h, Int.max_eq_right h]
      · rw [Int.min_eq_right (by omega), Int.max_eq_left (by omega)]
        exact List.Perm.swap _ _ _
    · simp; omega
  rw [e] at h
  exact h
theorem c2_inInts {i : Int} {ns : List Int} : C2 X .In (.int i) (.lst (ns.map .int)) (.bl (decide (i ∈ ns))) := ⟨_, op_in_seq, fun H0 H u v Q s r1 r2 k => by
  cases (show u = .int i from r1)
  obtain ⟨a, vs, rfl, h1, h2⟩ := r2
  rw [DRs.ints h2] at h1
  have hi : inV (.int i) (ns.map V.int) = decide (i ∈ ns) := by
    unfold inV
    rw [Bool.eq_iff_iff]
    simp only [List.any_eq_true, List.mem_map, decide_eq_true_eq]
    constructor
    · rintro ⟨v, ⟨y, hy, rfl⟩, h⟩
      have : y = i := by simpa [eqV] using h
      exact this ▸ hy
    · intro h
      exact ⟨.int i, ⟨i, h, rfl⟩, by simp [eqV]⟩
  refine ⟨a, _, rfl, .inl (s.seq h1), rfl, by simp [flatV], ?_⟩
  rw [hi]
  exact k _ H0 H (JH.refl s) rfl⟩
end
end DL
namespace DL
open PySem PySem.Spec PyProof.Rows L2
local instance (priority := 2000) keyBEq26 : BEq Key := instBEqOfDecidableEq
section
variable {X : Cx} {ρ : En} {pos : Pos}
theorem ws_retE {e : Expr} {c : OC} {Φ : Out → Prop} (h : EO X ρ e c) (hΦ : Φ (.ro c)) : WS X (.Return (some e) pos) ρ Φ := fun B0 B σ H0 H Dn j k =>
  ⟨_, ps_ret pe_star, h B0 B σ H0 H _ j fun a o H0' H' g e1 e2 e3 r => k _ hΦ a o H0' H' (j.hp.trans g) e1 e2 (j.hp.sB.free e3) r⟩
end
end DL
namespace DL
open PySem PySem.Spec PyProof.Rows L2
/-- behind an except suite, its name is gone -/
def Aft (i : Nat) (Φ : Out → Prop) : Out → Prop
  | .nx ρ => Φ (.nx (ρ.set i .no))
  | .bk ρ => Φ (.bk (ρ.set i .no))
  | .ct ρ => Φ (.ct (ρ.set i .no))
  | o => Φ o
end DL
namespace DL
open PySem PySem.Spec PyProof.Rows L2
/-- the class named cn is caught by except xn -/
structure Xm (K : PySem.W.Frag) (mg : Str → Option Value) (cn xn : Str) : Prop where
  ex : ∃ C D, PySem.W.nsIn K mainGlobals cn = some (some (.ref C)) ∧ mg xn = some (.ref D) ∧ PySem.W.exmOne K (.ref C) (.ref D) = some true
mutual
def noL : D → Bool
  | .lst _ => false
  | .tup ds => noLs ds
  | .dk _ ds => noLs ds
  | .dt _ ds => noLs ds
  | .obj _ _ ds => noLs ds
  | .ptp ds => noLs ds
  | .etp ds => noLs ds
  | .exc _ _ _ ds => noLs ds
  | _ => true
def noLs : List D → Bool
  | [] => true
  | d :: ds => noL d && noLs ds
end
theorem er_rd {H : Hp} {a : Addr} {xs : List V} (h : H a = some (.lst xs)) {b : Addr} {u : HO} (hu : ∀ ys, u ≠ .lst ys) (r : Rd H b u) : Rd (er H a) b u := by
  rcases r with r | ⟨o, r⟩
  · have : b ≠ a := fun e => by subst e; rw [h] at r; cases r; exact hu _ rfl
    exact .inl (by rw [er_ne this]; exact r)
  · have : b ≠ a := fun e => by subst e; rw [h] at r; cases r
    exact .inr ⟨o, by rw [er_ne this]; exact r⟩
theorem er_sqT {K : PySem.W.Frag} {H : Hp} {a : Addr} {xs : List V} (h : H a = some (.lst xs)) {b : Addr} {vs : List V} (r : SqT K H b vs) : SqT K (er H a) b vs := by
  rcases r with r | r
  · exact .inl (er_rd h (fun _ z => by cases z) r)
  · exact .inr r
mutual
theorem er_dr {K : PySem.W.Frag} {H : Hp} {a : Addr} {xs : List V} (h : H a = some (.lst xs)) : ∀ (d : D) (v : V), noL d = true → DR K H d v → DR K (er H a) d v
  | .non, v, _, r => r
  | .bl _, v, _, r => r
  | .int _, v, _, r => r
  | .str _, v, _, r => r
  | .ty _, v, _, r => r
  | .lst _, v, n, _ => by cases n
  | .tup ds, v, n, r => by
    obtain ⟨b, vs, h1, h2, h3⟩ := r
    exact ⟨b, vs, h1, er_sqT h h2, er_drs h ds vs n h3⟩
  | .dk ks ds, v, n, r => by
    obtain ⟨b, vs, h1, h2, h4, h3⟩ := r
    exact ⟨b, vs, h1, er_rd h (fun _ z => by cases z) h2, h4, er_drs h ds vs n h3⟩
  | .dt ks ds, v, n, r => by
    obtain ⟨b, vs, h1, h2, h4, h3⟩ := r
    exact ⟨b, vs, h1, er_rd h (fun _ z => by cases z) h2, h4, er_drs h ds vs n h3⟩
  | .obj cn ns ds, v, n, r => by
    obtain ⟨b, C, dx, vs, h1, hn, h2, h4, h3⟩ := r
    have : b ≠ a := fun e => by subst e; rw [h] at h2; cases h2
    exact ⟨b, C, dx, vs, h1, hn, by rw [er_ne this]; exact h2, h4, er_drs h ds vs n h3⟩
  | .ad _, v, _, r => r
  | .exc _ x ns ds, v, n, r => by
    obtain ⟨h1, vs, h2, h4, h3⟩ := r
    have : x ≠ a := fun e => by subst e; rw [h] at h2; cases h2
    exact ⟨h1, vs, by rw [er_ne this]; exact h2, h4, er_drs h ds vs n h3⟩
  | .etp ds, v, n, r => by
    obtain ⟨b, vs, h1, h2, h3⟩ := r
    have : b ≠ a := fun e => by subst e; rw [h] at h2; cases h2
    exact ⟨b, vs, h1, by rw [er_ne this]; exact h2, er_drs h ds vs n h3⟩
  | .ptp ds, v, n, r => by
    obtain ⟨b, o, vs, h1, h2, h4, h3⟩ := r
    have : b ≠ a := fun e => by subst e; rw [h] at h2; cases h2
    exact ⟨b, o, vs, h1, by rw [er_ne this]; exact h2, h4, er_drs h ds vs n h3⟩
theorem er_drs {K : PySem.W.Frag} {H : Hp} {a : Addr} {xs : List V} (h : H a = some (.lst xs)) : ∀ (ds : List D) (vs : List V), noLs ds = true → DRs K H ds vs → DRs K (er H a) ds vs
  | [], vs, _, r => r
  | d :: ds, vs, n, r => by
    obtain ⟨v, w, h1, h2, h3⟩ := r
    have n' : (noL d && noLs ds) = true := n
    rw [Bool.and_eq_true] at n'
    exact ⟨v, w, h1, er_dr h d v n'.1 h2, er_drs h ds w n'.2 h3⟩
end
end DL
namespace DL
open PySem PySem.Spec PyProof.Rows L2
theorem kit_ty {K : PySem.W.Frag} {C : Addr} {T : String} {b : Bool} (h4 : PySem.W.subIn K (.ref C) (.type T) = some b) (hm : PySem.W.kitMeta T = true := by decide +kernel) : PySem.W.kitOne K (.ref C) (.type T) = some b := by
  unfold PySem.W.kitOne
  rw [if_neg (show ¬ ((Value.ref C == Value.type T) = true) from Bool.false_ne_true)]
  show (if PySem.W.kitMeta T = true then PySem.W.subIn K (.ref C) (.type T) else none) = some b
  rw [if_pos hm]; exact h4
end DL
namespace DL
open PySem PySem.Spec PyProof.Rows L2
theorem zip_get {α β : Type} : ∀ {as : List α} {bs : List β} {i : Nat} {a : α} {b : β}, (as.zip bs)[i]? = some (a, b) → as[i]? = some a ∧ bs[i]? = some b
  | [], _, i, a, b, h => by simp at h
  | _ :: _, [], i, a, b, h => by simp at h
  | x :: as, y :: bs, 0, a, b, h => by simp at h; simp [h.1, h.2]
  | x :: as, y :: bs, i + 1, a, b, h => by
    have := zip_get (as := as) (bs := bs) (i := i) (a := a) (b := b) (by simpa using h)
    simpa using this
end DL
namespace DL
open PySem PySem.Spec PyProof.Rows L2
abbrev PW := List (List Key × Int)
end DL
namespace DL
open PySem PySem.Spec PyProof.Rows L2
/-- a heap without some places -/
def ers (H : Hp) (as : List Addr) : Hp := fun b => if b ∈ as then none else H b
theorem ers_in {H : Hp} {as : List Addr} {b : Addr} (h : b ∈ as) : ers H as b = none := if_pos h
theorem ers_out {H : Hp} {as : List Addr} {b : Addr} (h : b ∉ as) : ers H as b = H b := if_neg h
theorem ers_sub {H : Hp} {as : List Addr} : Same (ers H as) H := fun b u e => by
  by_cases h : b ∈ as
  · rw [ers_in h] at e; cases e
  · rwa [ers_out h] at e
abbrev Cs := List (Addr × OC)
abbrev pl (cs : Cs) : List Addr := cs.map (·.1)
section
variable {K : PySem.W.Frag} {B0 B H0 H H0' H' : Hp} {σ : L2.St} {ρ : En}
/-- what a slot owns, in another order -/
theorem J.perm (j : J K B0 B σ H0 H ρ) {i : Nat} {cs cs' : Cs} {d : D} (h : ρ[i]? = some (.ox cs d)) (p : cs.Perm cs') : J K B0 B σ H0 H (ρ.set i (.ox cs' d)) := by
  obtain ⟨ov, e1, f1, f2, f3⟩ := j.get h
  exact j.setSl (s := .ox cs' d) e1 ⟨f1, fun q hq => f2 q (p.mem_iff.mpr hq), (p.map _).nodup_iff.mp f3⟩ (j.sub h e1 fun a w => by
    have w' : a ∈ cs'.map (·.1) := w
    exact (p.map (·.1)).mem_iff.mpr w')
/-- what was lent comes back -/
theorem J.back (j : J K B0 B σ H0 H ρ) {i : Nat} {cs cs2 cs' : Cs} {d : D} (h : ρ[i]? = some (.ox (cs ++ cs2) d)) (g : JH H0 (ers H (pl cs)) H0' H') (hc : ∀ p ∈ cs', CellR K (ers H (pl cs)) H0' H' p.1 p.2) (nd : (pl cs').Nodup) :
    J K B0 B σ H0' H' (ρ.set i (.ox (cs' ++ cs2) d)) := by
  obtain ⟨ov, e1, ⟨v, rfl, rv⟩, f2, f3⟩ := j.get h
  have f3' := f3
  rw [List.map_append, List.nodup_append] at f3'
  obtain ⟨n1, n2, n3⟩ := f3'
  have Bn : ∀ a, a ∈ pl cs → B a = none := fun a ha => by
    obtain ⟨p, hp, rfl⟩ := List.mem_map.mp ha
    obtain ⟨o, _, _, q, _⟩ := (f2 p (List.mem_append_left _ hp)).ex
    exact q
  have sB : Same B (ers H (pl cs)) := fun b u e => by
    rw [ers_out fun hb => by rw [Bn b hb] at e; cases e]
    exact j.hp.sB b u e
  have eN : ∀ a, ers H (pl cs) a = none → B a = none := fun a ha => by
    cases hB : B a with
    | none => rfl
    | some u => rw [sB a u hB] at ha; cases ha
  have cell : ∀ {a : Addr} {c : OC}, a ∉ pl cs → CellR K B H0 H a c → CellR K B H0' H' a c := fun {a c} na ⟨o, q1, q2, q3, q4⟩ => by
    have q5 : ers H (pl cs) a = some o := by rw [ers_out na]; exact q1
    exact ⟨o, g.sB a o q5, g.fr a o q5 q4.nt q2, q3, q4.mono g.s0⟩
  have hl : i < ρ.length := (List.getElem?_eq_some_iff.mp h).1
  have oth : ∀ {k : Nat} {s : Sl} {ok : Option V} {a : Addr}, k ≠ i → ρ[k]? = some s → σ[k]? = some ok → Owns s ok a → a ∉ pl cs := fun {k s ok a} nk h1 h2 w hm =>
    nk (j.dis k i s _ ok _ a h1 h h2 e1 w (by show a ∈ (cs ++ cs2).map (·.1); rw [List.map_append]; exact List.mem_append_left _ hm))
  refine ⟨⟨j.hp.s0.trans g.s0, g.sh, sB.trans g.sB, fun a o ha nt hb => g.fr a o (sB a o ha) nt (j.hp.fr a o ha nt hb)⟩, by simp [j.len], fun k s1 ov1 g1 g2 => ?_, fun k l s1 s2 o1 o2 b g1 g2 g3 g4 w1 w2 => ?_⟩
  · rcases set_get g1 with ⟨rfl, rfl, _⟩ | ⟨nk, g1⟩
    · rw [e1] at g2; cases g2
      refine ⟨⟨v, rfl, DR.mono g.s0 _ _ rv⟩, fun p hp => ?_, ?_⟩
      · rcases List.mem_append.mp hp with hp | hp
        · obtain ⟨o, q1, q2, q3, q4⟩ := (hc p hp).ex
          exact ⟨o, q1, q2, eN _ q3, q4⟩
        · exact cell (fun hm => n3 p.1 hm p.1 (List.mem_map.mpr ⟨p, hp, rfl⟩) rfl) (f2 p (List.mem_append_right _ hp))
      · rw [List.map_append, List.nodup_append]
        refine ⟨nd, n2, fun x hx y hy => ?_⟩
        rintro rfl
        obtain ⟨p, hp, rfl⟩ := List.mem_map.mp hx
        obtain ⟨q, hq, e⟩ := List.mem_map.mp hy
        obtain ⟨o, q1, q2, q3, q4⟩ := (hc p hp).ex
        obtain ⟨o', q1', _⟩ := (f2 q (List.mem_append_right _ hq)).ex
        rw [ers_out (fun hm => n3 p.1 hm p.1 hy rfl), ← e, q1'] at q3
        cases q3
    · have q := j.sl k s1 ov1 g1 g2
      have nb : ∀ b, Owns s1 ov1 b → b ∉ pl cs := fun b w => oth nk g1 g2 w
      cases s1 with
      | no => trivial
      | sh d => obtain ⟨v, q1, q2⟩ := q; exact ⟨v, q1, DR.mono g.s0 _ _ q2⟩
      | ow c =>
        obtain ⟨b, ob, q1, q2⟩ := q
        obtain ⟨o, r1, r2, r3, r4⟩ := cell (nb b q1) ⟨ob, q2⟩
        exact ⟨b, o, q1, r1, r2, r3, r4⟩
      | ox cs3 d3 =>
        obtain ⟨⟨v, q1, q2⟩, q3, q4⟩ := q
        exact ⟨⟨v, q1, DR.mono g.s0 _ _ q2⟩, fun p hp => cell (nb p.1 (List.mem_map.mpr ⟨p, hp, rfl⟩)) (q3 p hp), q4⟩
  · have new : ∀ {k : Nat} {s : Sl} {ok : Option V}, k ≠ i → ρ[k]? = some s → σ[k]? = some ok → Owns s ok b → b ∉ (cs' ++ cs2).map (·.1) := fun {k s ok} nk h1 h2 w hm => by
      obtain ⟨o, q1, _⟩ := j.own h1 h2 w
      have nb := oth nk h1 h2 w
      rw [List.map_append, List.mem_append] at hm
      rcases hm with hm | hm
      · obtain ⟨p, hp, rfl⟩ := List.mem_map.mp hm
        obtain ⟨_, _, _, q3, _⟩ := (hc p hp).ex
        rw [ers_out nb, q1] at q3; cases q3
      · exact nk (j.dis k i s _ ok _ b h1 h h2 e1 w (by show b ∈ (cs ++ cs2).map (·.1); rw [List.map_append]; exact List.mem_append_right _ hm))
    rcases set_get g1 with ⟨ek, es1, _⟩ | ⟨nk, g1'⟩
    · rcases set_get g2 with ⟨el, es2, _⟩ | ⟨nl, g2'⟩
      · rw [ek, el]
      · subst es1; exact absurd w1 (new nl g2' g4 w2)
    · rcases set_get g2 with ⟨el, es2, _⟩ | ⟨nl, g2'⟩
      · subst es2; exact absurd w2 (new nk g1' g3 w1)
      · exact j.dis k l s1 s2 o1 o2 b g1' g2' g3 g4 w1 w2
/-- what may be lent -/
theorem J.lent (j : J K B0 B σ H0 H ρ) {i : Nat} {cs cs2 : Cs} {d : D} (h : ρ[i]? = some (.ox (cs ++ cs2) d)) : (∀ p ∈ cs, CellR K (ers H (pl cs)) H0 H p.1 p.2) ∧ (pl cs).Nodup := by
  obtain ⟨ov, e1, ⟨v, rfl, rv⟩, f2, f3⟩ := j.get h
  rw [List.map_append, List.nodup_append] at f3
  refine ⟨fun p hp => ?_, f3.1⟩
  obtain ⟨o, q1, q2, q3, q4⟩ := (f2 p (List.mem_append_left _ hp)).ex
  exact ⟨o, q1, q2, ers_in (List.mem_map.mpr ⟨p, hp, rfl⟩), q4⟩
end
def EP (X : Cx) (ρ : En) (e : Expr) (Ψ : D → En → Prop) : Prop := ∀ B0 B σ H0 H (Q : VK), J X.K B0 B σ H0 H ρ → (∀ d ρ' v H0' H', Ψ d ρ' → Same H0 H0' → J X.K B0 B σ H0' H' ρ' → DR X.K H0' d v → Q v H') → RE X e σ H Q
/-- a new thing of its own, with cells -/
def EC (X : Cx) (ρ : En) (e : Expr) (Ψ : Addr → Cs → Prop) : Prop := ∀ B0 B σ H0 H (Q : VK), J X.K B0 B σ H0 H ρ → (∀ a cs H0' H', Ψ a cs → JH H0 H H0' H' → (∀ p ∈ cs, CellR X.K H H0' H' p.1 p.2) → (pl cs).Nodup → Q (.ref a) H') → RE X e σ H Q
section
variable {X : Cx} {ρ : En} {e : Expr} {pos : Pos} {d : D} {Φ : Out → Prop} {Ψ : D → En → Prop}
theorem ep_mono {Ψ' : D → En → Prop} (h : EP X ρ e Ψ) (q : ∀ d ρ', Ψ d ρ' → Ψ' d ρ') : EP X ρ e Ψ' := fun B0 B σ H0 H Q j k => h B0 B σ H0 H Q j fun d ρ' v H0' H' w => k d ρ' v H0' H' (q d ρ' w)
theorem ws_setP (i : Nat) {x : Str} {pos' : Pos} (hN : X.N.Nodup) (he : EP X ρ e Ψ) (hΦ : ∀ d ρ', Ψ d ρ' → Φ (.nx (ρ'.set i (.sh d)))) (hi : X.N[i]? = some x := by rfl) (hx : Loc X.env.scope x := by first | exact Or.inl rfl | exact Or.inr rfl)
    (hs : swapsWith e (some (.Name x pos')) pos.line X.env = pure false := by rfl) (hf : X.fn x = true ∨ X.env.scope.names.lookup x = some .local := by first | exact .inl rfl | exact .inr rfl) : WS X (.Assign [.Name x pos'] e pos) ρ Φ := fun B0 B σ H0 H Dn j k =>
  ⟨_, ps_set hN hi hx pe_star hs hf, he B0 B σ H0 H _ j fun d ρ' v H0' H' w s1 j1 r => k _ (hΦ d ρ' w) _ H0' H' (j1.setSh r)⟩
theorem ws_unpackP {tg : Expr} (he : EP X ρ e Ψ) (hg : ∀ d ρ', Ψ d ρ' → ∃ (is : List Nat) (ρ2 : En), DG X is tg d ρ' ρ2 ∧ Φ (.nx ρ2)) (hs : swapsWithSole [tg] e pos.line X.env = pure false := by rfl) (hw : swappedStores [tg] e X.env = pure none := by rfl)
    (h1 : (assignEach [tg] X.env).map (·.2) = [assign tg X.env] := by rfl) : WS X (.Assign [tg] e pos) ρ Φ := fun B0 B σ H0 H Dn j k =>
  ⟨_, ps_asg pe_star pg_star hs hw h1, he B0 B σ H0 H _ j fun d ρ' v H0' H' w s1 j1 r => by
    obtain ⟨is, ρ2, hg', hΦ⟩ := hg d ρ' w
    exact hg' B0 B σ H0' H' v _ j1 r fun σ' j' _ => k _ hΦ σ' H0' H' j'⟩
theorem ws_exprP (he : EP X ρ e Ψ) (hΦ : ∀ d ρ', Ψ d ρ' → Φ (.nx ρ')) (hs : swapsWith e none pos.line X.env = pure false := by rfl) : WS X (.Expr e pos) ρ Φ := fun B0 B σ H0 H Dn j k =>
  ⟨_, ps_expr pe_star hs, he B0 B σ H0 H _ j fun d ρ' v H0' H' w s1 j1 r => k _ (hΦ d ρ' w) σ H0' H' j1⟩
/-- x = a new thing with cells -/
theorem ws_setC (i : Nat) {x : Str} {pos' : Pos} {Ψ : Addr → Cs → Prop} (hN : X.N.Nodup) (he : EC X ρ e Ψ) (hΦ : ∀ a cs, Ψ a cs → Φ (.nx (ρ.set i (.ox cs (.ad a))))) (hi : X.N[i]? = some x := by rfl) (hx : Loc X.env.scope x := by first | exact Or.inl rfl | exact Or.inr rfl)
    (hs : swapsWith e (some (.Name x pos')) pos.line X.env = pure false := by rfl) (hf : X.fn x = true ∨ X.env.scope.names.lookup x = some .local := by first | exact .inl rfl | exact .inr rfl) : WS X (.Assign [.Name x pos'] e pos) ρ Φ := fun B0 B σ H0 H Dn j k =>
  ⟨_, ps_set hN hi hx pe_star hs hf, he B0 B σ H0 H _ j fun a cs H0' H' w g hc nd => by
    refine k _ (hΦ a cs w) _ H0' H' ((j.grow g).setTo (s := .ox cs (.ad a)) (ov := some (.ref a)) ⟨⟨_, rfl, rfl⟩, fun p hp => ?_, nd⟩ fun b w k s' ov' nk h1 h2 w2 => ?_)
    · obtain ⟨o, q1, q2, q3, q4⟩ := (hc p hp).ex
      exact ⟨o, q1, q2, j.hp.sB.free q3, q4⟩
    · have w' : b ∈ pl cs := w
      obtain ⟨p, hp, rfl⟩ := List.mem_map.mp w'
      obtain ⟨_, _, _, q3, _⟩ := (hc p hp).ex
      obtain ⟨o, q1, _⟩ := j.own h1 h2 w2
      rw [q3] at q1; cases q1⟩
/-- return e, with what slot 0 owns -/
theorem ws_retC (i : Nat) {cs : Cs} {d0 : D} (h : ED X ρ e d) (hi : ρ[i]? = some (.ox cs d0)) (hΦ : Φ (.rc d cs)) : WS X (.Return (some e) pos) ρ Φ := fun B0 B σ H0 H Dn j k =>
  ⟨_, ps_ret pe_star, h B0 B σ H0 H _ j fun v H0' H' g r => by
    obtain ⟨ov, e1, _, f2, f3⟩ := (j.grow g).get hi
    exact k _ hΦ v H0' H' (j.hp.trans g) f2 f3 r⟩
end
/-- R: the place of the first argument, what is lent, the other arguments, what comes back and the result -/
abbrev RLnt := Addr → Cs → List D → (Cs → D → Prop) → Prop
def spL (K : PySem.W.Frag) (R : RLnt) : Sp := fun vs H Q _ => ∃ H0 a cs ds ws Ψ, vs = .ref a :: ws ∧ Same H0 H ∧ (∀ p ∈ cs, CellR K (ers H (pl cs)) H0 H p.1 p.2) ∧ (pl cs).Nodup ∧ DRs K H0 ds ws ∧ R a cs ds Ψ ∧
  ∀ cs' d v H0' H', Ψ cs' d → JH H0 (ers H (pl cs)) H0' H' → (∀ p ∈ cs', CellR K (ers H (pl cs)) H0' H' p.1 p.2) → (pl cs').Nodup → DR K H0' d v → Q v H'
def enL (N : List Str) (cs : Cs) (a : Addr) (ds : List D) : En := .ox cs (.ad a) :: (ds.map Sl.sh ++ List.replicate (N.length - (ds.length + 1)) Sl.no)
section
variable {P : Program} {w : World} {K : PySem.W.Frag} {mg : Str → Option Value} {base : Heap}
theorem j_startL {N : List Str} {B H0 H : Hp} {a : Addr} {cs : Cs} {ds : List D} {vs : List V} (s : Same H0 H) (sB : Same B H) (hc : ∀ p ∈ cs, CellR K B H0 H p.1 p.2) (nd : (pl cs).Nodup) (r : DRs K H0 ds vs) (hl : ds.length + 1 ≤ N.length) : J K H0 B (L2.start N (.ref a :: vs)) H0 H (enL N cs a ds) := by
  have hlen := DRs.length r
  have kind : ∀ (i : Nat) s, (enL N cs a ds)[i]? = some s → i = 0 ∨ s = .no ∨ ∃ d, s = .sh d := fun i s h => by
    cases i with
    | zero => exact .inl rfl
    | succ i =>
      refine .inr ?_
      unfold enL at h
      rw [List.getElem?_cons_succ] at h
      by_cases hi : i < ds.length
      · rw [List.getElem?_append_left (by simpa using hi), List.getElem?_map, show ds[i]? = some ds[i] by simp [hi]] at h
        cases h; exact .inr ⟨_, rfl⟩
      · rw [List.getElem?_append_right (by simp; omega), List.getElem?_replicate] at h
        split at h
        · cases h; exact .inl rfl
        · cases h
  refine ⟨⟨Same.refl _, s, sB, fun b o e _ h => h⟩, by simp [L2.start, enL, hlen], fun i sl ov h1 h2 => ?_, fun i j s1 s2 o1 o2 b h1 h2 _ _ w1 w2 => ?_⟩
  · cases i with
    | zero =>
      unfold enL at h1
      unfold L2.start at h2
      simp only [List.getElem?_cons_zero, Option.some.injEq, List.map_cons, List.cons_append] at h1 h2
      subst h1; subst h2
      exact ⟨⟨_, rfl, rfl⟩, hc, nd⟩
    | succ i =>
      unfold enL at h1
      unfold L2.start at h2
      simp only [List.getElem?_cons_succ, List.map_cons, List.cons_append] at h1 h2
      by_cases hi : i < ds.length
      · rw [List.getElem?_append_left (by simpa using hi), List.getElem?_map] at h1
        rw [List.getElem?_append_left (by simp; omega), List.getElem?_map] at h2
        obtain ⟨v, e1, e2⟩ := DRs.get r (show ds[i]? = some ds[i] by simp [hi])
        rw [show ds[i]? = some ds[i] by simp [hi]] at h1
        rw [e1] at h2
        cases h1; cases h2
        exact ⟨v, rfl, e2⟩
      · rw [List.getElem?_append_right (by simp; omega), List.getElem?_replicate] at h1
        split at h1
        · cases h1; trivial
        · cases h1
  · rcases kind i s1 h1 with e1 | e1
    · rcases kind j s2 h2 with e2 | e2
      · rw [e1, e2]
      · exact absurd w2 (Owns.none e2 b)
    · exact absurd w1 (Owns.none e1 b)
theorem fn_okL {x qual : Str} {st : Stmt} {f : Addr} {fd : FuncData} {N ps : List Str} {k : Nat} {R : RLnt} (F : Fun K x qual st f fd) (S : FnScope N ps (defScope st)) (hR : ∀ a cs ds Ψ, R a cs ds Ψ → ds.length + 1 = ps.length)
    (h : ∀ a cs ds Ψ, R a cs ds Ψ → ∀ (cdv : Value) (A : Around) (outer : List Env) (s : Shared) (H : Hp) (E : XK), Room k (A.deeper (envOfC qual (defScope st) s.heap.objs.size f cdv)) →
      WSs (bx P w K mg base N qual st f cdv A outer s H E) (defBody st) (enL N cs a ds) (fun o => (∃ d cs', o = .rc d cs' ∧ Ψ cs' d) ∨ (∃ ρ cs' d0, o = .nx ρ ∧ ρ[0]? = some (.ox cs' d0) ∧ Ψ cs' .non))) : FnOk P w K mg base CX0 (k + 1) f fd ps (spL K R) := by
  refine F.ok S (fun vs H Q E hs => ?_) fun cdv A outer s H vs Q E hr hs => ?_
  · obtain ⟨H0, a, cs, ds, ws, Ψ, rfl, s0, hc, nd, r, q, _⟩ := hs
    rw [List.length_cons, ← DRs.length r]; exact hR a cs ds Ψ q
  · obtain ⟨H0, a, cs, ds, ws, Ψ, rfl, s0, hc, nd, r, q, kk⟩ := hs
    have hN : ds.length + 1 ≤ N.length := by
      have h1 := hR a cs ds Ψ q
      have h2 := congrArg List.length S.pre
      rw [List.length_take] at h2
      omega
    obtain ⟨t, h1, h2⟩ := h a cs ds Ψ q cdv A outer s H E hr H0 (ers H (pl cs)) (L2.start N (.ref a :: ws)) H0 H (j_startL s0 ers_sub hc nd r hN) (Dn := { nx := fun _ H' => Q .non H', rt := Q }) fun o ho => by
      rcases ho with ⟨d, cs', rfl, w⟩ | ⟨ρ, cs', d0, rfl, hρ, w⟩
      · intro v G0 G g gc gn gd
        exact kk cs' d v G0 G w g gc gn gd
      · intro σ G0 G j
        obtain ⟨ov, e1, _, f2, f3⟩ := j.get hρ
        exact kk cs' .non .non G0 G w j.hp f2 f3 rfl
    exact ⟨t, h1, h2⟩
/-- a method that is lent its instance -/
structure FnML (P : Program) (w : World) (K : PySem.W.Frag) (mg : Str → Option Value) (base : Heap) (cn m : Str) (k : Nat) (R : RLnt) : Prop where
  ex : ∃ C f fd ps, PySem.W.nsIn K mainGlobals cn = some (some (.ref C)) ∧ Cls K C ∧ Meth K C m f ∧ FnOk P w K mg base CX0 k f fd ps (spL K R) ∧ Binds K fd ps []
end
section
variable {X : Cx} {ρ : En} {o e : Expr} {pos apos : Pos} {cn m : Str} {k : Nat} {R : RLnt} {es : List Expr} {ds fds : List D} {ns : List Str} {d0 : D} {pl' : Sem Bool}
/-- o.m(e, ..), o an instance that slot i owns -/
theorem ep_meth (i : Nat) {a : Addr} {cs cs2 : Cs} {Ψ : Cs → D → Prop} (G : FnML X.prog X.w X.K X.mg X.base cn m k R) (hr : Room k X.A) (hi : ρ[i]? = some (.ox (cs ++ cs2) d0)) (hm : (a, OC.ins cn ns fds) ∈ cs) (ho : ED X ρ o (.ad a)) (ha : AD X ρ (e :: es) ds) (hR : R a cs ds Ψ)
    (hnm : ns.contains m = false := by decide +kernel)
    (hst : starEach (e :: es) X.env = (false, eval e X.env) :: starEach es X.env := by rfl) (hpl : (backTo pos (starEach es X.env)).any (·.1) = false := by rfl)
    (ht : eval (.Call (.Attribute o m apos) (e :: es) [] pos) X.env = (do
      let ov ← eval o X.env
      standAt apos.atName
      let (f, first) ← holding [ov] (getMethod ov m pl')
      callWith pos f first (backTo pos (starEach (e :: es) X.env)) (backToKw pos (keywordEach [] X.env))) := by rfl) :
    EP X ρ (.Call (.Attribute o m apos) (e :: es) [] pos) (fun d ρ' => ∃ cs', Ψ cs' d ∧ ρ' = ρ.set i (.ox (cs' ++ cs2) d0)) := fun B0 B σ H0 H Q j kk => by
  obtain ⟨C, f, fd, ps, hC, hc, hmt, F, hb⟩ := G.ex
  refine RE.of (pe_meth (E := E0) pe_star hc hmt F hr hb .nil pass0 pa_star hst hpl ht) (ho B0 B σ H0 H _ j fun v G0 G g r => ?_)
  cases (show v = .ref a from r)
  have j1 := j.grow g
  obtain ⟨u, h1, _, _, vs, C', dx, rfl, hC', hlen, hvs⟩ := j1.cell hi (List.mem_append_left _ hm)
  rw [hC] at hC'; cases hC'
  refine ⟨a, dx, _, rfl, h1, zip_none hnm, ha B0 B σ G0 G _ j1 fun ws L0 L g2 r2 => ?_⟩
  rw [List.append_nil]
  have j2 := j1.grow g2
  obtain ⟨lc, ln⟩ := j2.lent hi
  exact ⟨L0, a, cs, ds, ws, Ψ, rfl, g2.sh, lc, ln, r2, hR, fun cs' d v M0 M w g3 c3 n3 r3 => kk d _ v M0 M ⟨cs', w, rfl⟩ ((g.s0.trans g2.s0).trans g3.s0) (j2.back hi g3 c3 n3) r3⟩
/-- .. all of the slot lent -/
theorem ep_methW (i : Nat) {a : Addr} {cs : Cs} {Ψ : Cs → D → Prop} (G : FnML X.prog X.w X.K X.mg X.base cn m k R) (hr : Room k X.A) (hi : ρ[i]? = some (.ox cs d0)) (hm : (a, OC.ins cn ns fds) ∈ cs) (ho : ED X ρ o (.ad a)) (ha : AD X ρ (e :: es) ds) (hR : R a cs ds Ψ)
    (hnm : ns.contains m = false := by decide +kernel)
    (hst : starEach (e :: es) X.env = (false, eval e X.env) :: starEach es X.env := by rfl) (hpl : (backTo pos (starEach es X.env)).any (·.1) = false := by rfl)
    (ht : eval (.Call (.Attribute o m apos) (e :: es) [] pos) X.env = (do
      let ov ← eval o X.env
      standAt apos.atName
      let (f, first) ← holding [ov] (getMethod ov m pl')
      callWith pos f first (backTo pos (starEach (e :: es) X.env)) (backToKw pos (keywordEach [] X.env))) := by rfl) :
    EP X ρ (.Call (.Attribute o m apos) (e :: es) [] pos) (fun d ρ' => ∃ cs', Ψ cs' d ∧ ρ' = ρ.set i (.ox cs' d0)) :=
  ep_mono (ep_meth i (cs := cs) (cs2 := []) (d0 := d0) G hr (by rw [List.append_nil]; exact hi) hm ho ha hR hnm hst hpl ht) fun d ρ' ⟨cs', w, e⟩ => ⟨cs', w, by rw [e, List.append_nil]⟩
end
abbrev RIL := Addr → List D → (Cs → Prop) → Prop
def spIL (K : PySem.W.Frag) (cn : Str) (R : RIL) : Sp := fun vs H Q _ => ∃ H0 a C dx ds ws Ψ, vs = .ref a :: ws ∧ PySem.W.nsIn K mainGlobals cn = some (some (.ref C)) ∧ Same H0 H ∧ H a = some (.ins C dx []) ∧ H0 a = none ∧ DRs K H0 ds ws ∧ R a ds Ψ ∧
  ∀ cs' H0' H', Ψ cs' → JH H0 (er H a) H0' H' → (∀ p ∈ cs', CellR K (er H a) H0' H' p.1 p.2) → (pl cs').Nodup → Q .non H'
section
variable {P : Program} {w : World} {K : PySem.W.Frag} {mg : Str → Option Value} {base : Heap}
theorem fn_okIL {x qual : Str} {st : Stmt} {f : Addr} {fd : FuncData} {N ps : List Str} {k : Nat} {cn : Str} {R : RIL} (F : Fun K x qual st f fd) (S : FnScope N ps (defScope st)) (hR : ∀ a ds Ψ, R a ds Ψ → ds.length + 1 = ps.length)
    (h : ∀ a ds Ψ, R a ds Ψ → ∀ (cdv : Value) (A : Around) (outer : List Env) (s : Shared) (H : Hp) (E : XK), Room k (A.deeper (envOfC qual (defScope st) s.heap.objs.size f cdv)) →
      WSs (bx P w K mg base N qual st f cdv A outer s H E) (defBody st) (enI N a cn ds) (fun o => ∃ ρ cs' d0, o = .nx ρ ∧ ρ[0]? = some (.ox cs' d0) ∧ Ψ cs')) : FnOk P w K mg base CX0 (k + 1) f fd ps (spIL K cn R) := by
  refine F.ok S (fun vs H Q E hs => ?_) fun cdv A outer s H vs Q E hr hs => ?_
  · obtain ⟨H0, a, C, dx, ds, ws, Ψ, rfl, hC, s0, ha, h0, r, q, _⟩ := hs
    rw [List.length_cons, ← DRs.length r]; exact hR a ds Ψ q
  · obtain ⟨H0, a, C, dx, ds, ws, Ψ, rfl, hC, s0, ha, h0, r, q, kk⟩ := hs
    have hN : ds.length + 1 ≤ N.length := by
      have h1 := hR a ds Ψ q
      have h2 := congrArg List.length S.pre
      rw [List.length_take] at h2
      omega
    obtain ⟨t, h1, h2⟩ := h a ds Ψ q cdv A outer s H E hr H0 (er H a) (L2.start N (.ref a :: ws)) H0 H (j_startI s0 hC ha h0 r hN) (Dn := { nx := fun _ H' => Q .non H', rt := Q }) fun o ho => by
      obtain ⟨ρ, cs', d0, rfl, hρ, w⟩ := ho
      intro σ G0 G j
      obtain ⟨ov, e1, _, f2, f3⟩ := j.get hρ
      exact kk cs' G0 G w j.hp f2 f3
    exact ⟨t, h1, h2⟩
structure FnIL (P : Program) (w : World) (K : PySem.W.Frag) (mg : Str → Option Value) (base : Heap) (cn : Str) (k : Nat) (R : RIL) : Prop where
  ex : ∃ C f fd ps, PySem.W.nsIn K mainGlobals cn = some (some (.ref C)) ∧ mg cn = some (.ref C) ∧ Mk K C f ∧ FnOk P w K mg base CX0 k f fd ps (spIL K cn R) ∧ Binds K fd ps []
end
theorem ec_make {X : Cx} {ρ : En} {e : Expr} {pos : Pos} {cn : Str} {k : Nat} {R : RIL} {es : List Expr} {ds : List D} {Ψ : Addr → Cs → Prop} {p : Pos} (G : FnIL X.prog X.w X.K X.mg X.base cn k R) (hr : Room (k + 1) X.A) (hg : Gl X cn) (ha : AD X ρ (e :: es) ds) (hR : ∀ a, R a ds (Ψ a))
    (hdb : (cn == ("__debug__" : Str)) = false := by decide +kernel) (he : starEach (e :: es) X.env = (false, eval e X.env) :: starEach es X.env := by rfl) (hpl : (backTo pos (starEach es X.env)).any (·.1) = false := by rfl) :
    EC X ρ (.Call (.Name cn p) (e :: es) [] pos) Ψ := fun B0 B σ H0 H Q j kk => by
  obtain ⟨C, f, fd, ps, hC, hm, M, F, hb⟩ := G.ex
  refine RE.of (pe_make (E := E0) M F hr hg hm hb .nil pass0 pa_star hdb he hpl) (ha B0 B σ H0 H _ j fun vs G0 G g r => ?_)
  intro x dx hx hdx hne
  rw [List.append_nil]
  have g0x : G0 x = none := g.sh.free hx
  have g0d : G0 dx = none := g.sh.free hdx
  have s1 : Same G0 (upd (upd G dx (.own x)) x (.ins C dx [])) := fun b u q => by
    rw [upd_ne (ne_of_none q g0x), upd_ne (ne_of_none q g0d)]
    exact g.sh b u q
  have sE : Same G (er (upd (upd G dx (.own x)) x (.ins C dx [])) x) := fun b u q => by
    have n1 := ne_of_none q hx
    rw [er_ne n1, upd_ne n1, upd_ne (ne_of_none q hdx)]
    exact q
  refine ⟨G0, x, C, dx, ds, vs, Ψ x, rfl, hC, s1, upd_same, g0x, r, hR x, fun cs' L0 L w gg hc nd => ⟨rfl, ?_⟩⟩
  refine kk x cs' L0 L w (g.trans ⟨gg.s0, gg.sh, sE.trans gg.sB, fun b u q nt q' => gg.fr b u (sE b u q) nt q'⟩) (fun p hp => ?_) nd
  obtain ⟨o, q1, q2, q3, q4⟩ := (hc p hp).ex
  exact ⟨o, q1, q2, (g.sB.trans sE).free q3, q4⟩
section
variable {X : Cx} {ρ : En} {e : Expr} {pos : Pos} {cn f : Str} {ns fs : List Str} {ds : List D} {d : D}
/-- e.f, e an instance that slot s owns -/
theorem ed_fldC (s i : Nat) {a : Addr} {cs : Cs} {d0 : D} (kl : Kl X.K X.mg cn fs) (hρ : ρ[s]? = some (.ox cs d0)) (hm : (a, OC.ins cn ns ds) ∈ cs) (he : ED X ρ e (.ad a)) (hn : ns[i]? = some f := by rfl) (hd : ds[i]? = some d := by rfl) (hu : (ns.take i).contains f = false := by decide +kernel) (hf : f ∈ fs := by decide +kernel)
    (hb : attributeBase e f X.env (eval e X.env) = eval e X.env := by rfl) : ED X ρ (.Attribute e f pos) d := fun B0 B σ H0 H Q j k => by
  refine RE.of (pe_fld pe_star hb) (he B0 B σ H0 H _ j fun v G0 G g r => ?_)
  cases (show v = .ref a from r)
  obtain ⟨o, h1, h2, h3, vs, C, dx, rfl, hC, hlen, hvs⟩ := (j.grow g).cell hρ hm
  obtain ⟨C', hC', hmc, hc, hk, hna⟩ := kl.ex
  rw [hC] at hC'; cases hC'
  obtain ⟨v, hv', rv⟩ := DRs.get hvs hd
  exact ⟨a, C, dx, _, v, rfl, h1, hc.cl, hna f hf, zip_at hn hu hv', k v G0 G g rv⟩
theorem putC_hd {a : Addr} {c c' : OC} {cs : Cs} (nd : (pl ((a, c) :: cs)).Nodup) : putC ((a, c) :: cs) a c' = (a, c') :: cs := by
  unfold putC
  simp only [List.map_cons, if_pos]
  congr 1
  conv => rhs; rw [← List.map_id cs]
  refine List.map_congr_left fun p hp => ?_
  have : p.1 ≠ a := fun z => (List.nodup_cons.mp nd).1 (z ▸ List.mem_map.mpr ⟨p, hp, rfl⟩)
  rw [if_neg this]; rfl
/-- self.f = e, a new field with a new thing -/
theorem ws_setFO (s : Nat) {a : Addr} {x : Str} {p pos' : Pos} {value : Expr} {cs : Cs} {c : OC} {Φ : Out → Prop} (kl : Kl X.K X.mg cn fs) (hρ : ρ[s]? = some (.ox ((a, .ins cn ns ds) :: cs) (.ad a))) (hv : EO X ρ value c) (hΦ : ∀ q, Φ (.nx (ρ.set s (.ox ((a, .ins cn (ns ++ [f]) (ds ++ [.ad q])) :: (cs ++ [(q, c)])) (.ad a)))))
    (hnew : ns.contains f = false := by decide +kernel) (hf : f ∈ fs := by decide +kernel) (hlt : ns.length < 1000 := by decide)
    (hN : X.N[s]? = some x := by rfl) (hvis : Vis X.env.scope x := by first | exact Or.inl rfl | exact Or.inr (Or.inl rfl) | exact Or.inr (Or.inr rfl)) (hdb : (x == ("__debug__" : Str)) = false := by decide) (hcd : (x == ("__classdict__" : Str)) = false := by decide)
    (hs : swapsWith value (some (.Attribute (.Name x p) f pos')) pos.line X.env = pure false := by rfl) : WS X (.Assign [.Attribute (.Name x p) f pos'] value pos) ρ Φ := fun B0 B σ H0 H Dn j k => by
  refine ⟨_, ps_fld (pe_var hN hvis hdb hcd) pe_star hs, hv B0 B σ H0 H _ j fun q oq G0 G g q1 q2 q3 q4 => ?_⟩
  have j1 := j.more g hρ q1 q2 q3 q4
  have hlt' : s < ρ.length := (List.getElem?_eq_some_iff.mp hρ).1
  obtain ⟨ov, e1, ⟨v1, rfl, rv⟩, hcs, nd⟩ := j1.get (i := s) (s := .ox ((a, .ins cn ns ds) :: (cs ++ [(q, c)])) (.ad a)) (by rw [List.getElem?_set_self hlt']; rfl)
  cases (show v1 = .ref a from rv)
  obtain ⟨o, h1, h2, h3, vs, C, dx, rfl, hC, hlen, hvs⟩ := (hcs _ (List.mem_cons_self ..)).ex
  obtain ⟨C', hC', hm, hc, hk, hna⟩ := kl.ex
  rw [hC] at hC'; cases hC'
  have hl : (ns.zip vs).length < 1000 := by rw [List.length_zip]; omega
  refine ⟨_, e1, a, C, dx, _, rfl, h1, hc.cl, hna f hf, hl, ?_⟩
  rw [putF_new hnew hlen]
  have j2 := j1.put (i := s) (cs := (a, .ins cn ns ds) :: (cs ++ [(q, c)])) (d := .ad a) (c' := .ins cn (ns ++ [f]) (ds ++ [.ad q])) (o := .ins C dx ((ns ++ [f]).zip (vs ++ [.ref q]))) (by rw [List.getElem?_set_self hlt']; rfl) (List.mem_cons_self ..) ⟨vs ++ [.ref q], C, dx, rfl, hC, by simp [hlen], DRs.app hvs (DRs.one (d := .ad q) (v := V.ref q) rfl)⟩
  rw [putC_hd nd, List.set_set] at j2
  exact k _ (hΦ q) _ _ _ j2
end
end DL
namespace DL
open PySem PySem.Spec PyProof.Rows L2
/-- what stands at a key -/
def lookK : List Key → List D → Key → Option D
  | k0 :: ks, d :: ds, k => if k0 = k then some d else lookK ks ds k
  | _, _, _ => none
theorem lookK_val {K : PySem.W.Frag} {H : Hp} {k : Key} : ∀ {ks : List Key} {ds : List D} {vs : List V} {d : D}, DRs K H ds vs → lookK ks ds k = some d → ∃ v, valV (ks.zip vs) k = some v ∧ DR K H d v
  | [], ds, vs, d, h, e => by simp [lookK] at e
  | k0 :: ks, [], vs, d, h, e => by simp [lookK] at e
  | k0 :: ks, d0 :: ds, vs, d, h, e => by
    obtain ⟨v, r, rfl, h1, h2⟩ := h
    by_cases q : k0 = k
    · rw [lookK, if_pos q] at e; cases e
      exact ⟨v, by rw [List.zip_cons_cons]; exact valV_pos q, h1⟩
    · rw [lookK, if_neg q] at e
      obtain ⟨u, e1, e2⟩ := lookK_val h2 e
      exact ⟨u, by rw [List.zip_cons_cons, valV_neg (p := (k0, v)) q]; exact e1, e2⟩
def hasK (ks : List Key) (k : Key) : Bool := ks.any fun j => decide (j = k)
theorem hasK_iff {ks : List Key} {k : Key} : hasK ks k = true ↔ k ∈ ks := by
  unfold hasK
  rw [List.any_eq_true]
  exact ⟨fun ⟨j, h1, h2⟩ => of_decide_eq_true h2 ▸ h1, fun h => ⟨k, h, decide_eq_true rfl⟩⟩
theorem lookK_isSome {K : PySem.W.Frag} {H : Hp} {k : Key} : ∀ {ks : List Key} {ds : List D} {vs : List V}, ks.length = vs.length → DRs K H ds vs → (valV (ks.zip vs) k).isSome = hasK ks k
  | [], ds, vs, _, h => by simp [valV, hasK]
  | k0 :: ks, [], vs, l, h => by cases (show vs = [] from h); simp at l
  | k0 :: ks, d0 :: ds, vs, l, h => by
    obtain ⟨v, r, rfl, h1, h2⟩ := h
    rw [List.zip_cons_cons]
    by_cases q : k0 = k
    · rw [valV_pos (p := (k0, v)) q]; simp [q, hasK]
    · rw [valV_neg (p := (k0, v)) q, lookK_isSome (by simpa using l) h2]
      simp [hasK, q]
section
variable {X : Cx} {ρ : En} {Φ : Out → Prop} {e a b o : Expr} {pos : Pos} {d : D} {rest : List Stmt}
/-- d[k], d a shared dict -/
theorem ed_dix {ks : List Key} {ds : List D} {k0 : Key} (hu : X.A.units + 64 < cLine) (ho : ED X ρ o (.dk ks ds)) (he : ED X ρ e (kD k0)) (h : lookK ks ds k0 = some d) (hs : NoSl e := by exact fun _ _ => rfl) : ED X ρ (.Subscript o e pos) d := fun B0 B σ H0 H Q j kk => by
  refine RE.of (pe_dget (by omega) pe_star pe_star hs) (ho B0 B σ H0 H _ j fun x G0 G g r => ?_)
  refine he B0 B σ G0 G _ (j.grow g) fun y L0 L g2 r2 => ?_
  obtain ⟨p, vs, rfl, h1, h2, h3⟩ := DR.mono g2.s0 _ _ r
  rw [kD_val r2]
  obtain ⟨v, e1, e2⟩ := lookK_val h3 h
  exact ⟨p, v, rfl, .inl ⟨_, k0, Same.rd g2.sh h1, rfl, e1.symm⟩, kk v L0 L (g.trans g2) e2⟩
theorem op_inK (hu : X.A.units + 1 < cLine) : OpR X (compareOp .In) (fun x y H Q => ∃ (p : Addr) (o : Option V), y = .ref p ∧ DGet H p x o ∧ Q (.bl o.isSome) H) := by
  rintro pins s σ H x y v u Q I rx ry ⟨p, o, rfl, g, q⟩
  cases (show u = Value.ref p from ry)
  exact d_in hu I g rx fun s' I' => ⟨.bl o.isSome, H, I', rfl, q⟩
theorem op_notInK (hu : X.A.units + 1 < cLine) : OpR X (compareOp .NotIn) (fun x y H Q => ∃ (p : Addr) (o : Option V), y = .ref p ∧ DGet H p x o ∧ Q (.bl (!o.isSome)) H) := by
  rintro pins s σ H x y v u Q I rx ry ⟨p, o, rfl, g, q⟩
  cases (show u = Value.ref p from ry)
  exact d_notIn hu I g rx fun s' I' => ⟨.bl (!o.isSome), H, I', rfl, q⟩
theorem c2_inDk {ks : List Key} {ds : List D} {k0 : Key} {d0 : D} (hu : X.A.units + 64 < cLine) (h0 : d0 = kD k0) : C2 X .In d0 (.dk ks ds) (.bl (hasK ks k0)) := ⟨_, op_inK (by omega), fun H0 H x y Q s r1 r2 kk => by
  subst h0
  rw [kD_val r1]
  obtain ⟨p, vs, rfl, h1, h2, h3⟩ := r2
  exact ⟨p, valV (ks.zip vs) k0, rfl, .inl ⟨_, k0, Same.rd s h1, rfl, rfl⟩, kk _ H0 H (JH.refl s) (by rw [lookK_isSome h2 h3]; rfl)⟩⟩
theorem c2_notInDk {ks : List Key} {ds : List D} {k0 : Key} {d0 : D} (hu : X.A.units + 64 < cLine) (h0 : d0 = kD k0) : C2 X .NotIn d0 (.dk ks ds) (.bl (!hasK ks k0)) := ⟨_, op_notInK (by omega), fun H0 H x y Q s r1 r2 kk => by
  subst h0
  rw [kD_val r1]
  obtain ⟨p, vs, rfl, h1, h2, h3⟩ := r2
  exact ⟨p, valV (ks.zip vs) k0, rfl, .inl ⟨_, k0, Same.rd s h1, rfl, rfl⟩, kk _ H0 H (JH.refl s) (by rw [lookK_isSome h2 h3]; rfl)⟩⟩
/-- x[k] = v, x a dict of the def's own, k a new key -/
theorem ws_dputO (i : Nat) {x : Str} {ks : List Key} {ds : List D} {k0 : Key} {p1 p2 : Pos} (hu : X.A.units + 64 < cLine) (hi : ρ[i]? = some (.ow (.dk ks ds))) (hb : ED X ρ b (kD k0)) (he : ED X ρ e d) (hn : k0 ∉ ks) (hl : ks.length < sizeLine)
    (hΦ : Φ (.nx (ρ.set i (.ow (.dk (ks ++ [k0]) (ds ++ [d])))))) (hs : swapsWith e (some (.Subscript (.Name x p1) b p2)) pos.line X.env = pure false := by rfl)
    (hN : X.N[i]? = some x := by rfl) (hv : Vis X.env.scope x := by first | exact Or.inl rfl | exact Or.inr (Or.inl rfl) | exact Or.inr (Or.inr rfl)) (hd : (x == ("__debug__" : Str)) = false := by decide) (hcd : (x == ("__classdict__" : Str)) = false := by decide) : WS X (.Assign [.Subscript (.Name x p1) b p2] e pos) ρ Φ := fun B0 B σ H0 H Dn j kk => by
  refine ⟨_, ps_dput (by omega) (pe_var hN hv hd hcd) pe_star pe_star hs, he B0 B σ H0 H _ j fun v G0 G g1 r1 => ?_⟩
  obtain ⟨ov, e0, p, o, rfl, _⟩ := (j.grow g1).get hi
  refine ⟨_, e0, hb B0 B σ G0 G _ (j.grow g1) fun y M0 M g3 r3 => ?_⟩
  rw [kD_val r3]
  have j1 := (j.grow g1).grow g3
  obtain ⟨ov', e0', p', o', e3, h1, h2, h3, vs, rfl, hlen, rr⟩ := j1.get hi
  rw [e0] at e0'; cases e0'; cases e3
  refine ⟨p, _, rfl, DPut.k h1 (by rw [List.length_zip, ← hlen]; omega), ?_⟩
  rw [putK_zip hlen hn]
  exact kk _ hΦ _ M0 _ (j1.write hi e0 ⟨_, rfl, by simp [hlen], DRs.app rr (DRs.one (DR.mono g3.s0 _ _ r1))⟩)
end
theorem putC_set {cs : Cs} {i : Nat} {p : Addr} {c c' : OC} (nd : (pl cs).Nodup) (h : cs[i]? = some (p, c)) : putC cs p c' = cs.set i (p, c') := by
  unfold putC
  refine List.ext_getElem? fun k => ?_
  rw [List.getElem?_map, List.getElem?_set]
  by_cases e : i = k
  · subst e
    rw [if_pos rfl, if_pos (List.getElem?_eq_some_iff.mp h).1, h]
    simp
  · rw [if_neg e]
    cases hk : cs[k]? with
    | none => rfl
    | some y =>
      have : y.1 ≠ p := fun z => e (by
        have h1 : (pl cs)[i]? = some p := by rw [List.getElem?_map, h]; rfl
        have h2 : (pl cs)[k]? = some p := by rw [List.getElem?_map, hk, ← z]; rfl
        exact (List.getElem?_inj (List.getElem?_eq_some_iff.mp h1).1 nd).mp (h1.trans h2.symm))
      show some (if y.1 = p then (p, c') else y) = some y
      rw [if_neg this]
section
variable {X : Cx} {ρ : En} {Φ : Out → Prop} {e a b : Expr} {pos : Pos} {d : D}
theorem ws_lputI (i m : Nat) {p : Addr} {cs : Cs} {d0 : D} {ds : List D} {n : Int} {q : Nat} {p2 : Pos} (hi : ρ[i]? = some (.ox cs d0)) (hm : cs[m]? = some (p, OC.lst ds)) (ha : ED X ρ a (.ad p)) (hb : ED X ρ b (.int n)) (he : ED X ρ e d) (hn : ixN ds.length n = some q) (hΦ : Φ (.nx (ρ.set i (.ox (cs.set m (p, .lst (ds.set q d))) d0))))
    (hs : swapsWithSole [.Subscript a b p2] e pos.line X.env = pure false := by rfl) (hw : swappedStores [.Subscript a b p2] e X.env = pure none := by rfl) (h1 : (assignEach [.Subscript a b p2] X.env).map (·.2) = [assign (.Subscript a b p2) X.env] := by rfl)
    (hx : ∀ v, assign (.Subscript a b p2) X.env v = (do
      let ov ← holding [v] (eval a X.env)
      let iv ← holding [v, ov] (eval b X.env)
      standAt p2
      holding [v, ov, iv] (setItem ov iv v)
      release [v, ov, iv] []) := by intro _; rfl) : WS X (.Assign [.Subscript a b p2] e pos) ρ Φ := fun B0 B σ H0 H Dn j kk => by
  obtain ⟨_, _, _, _, nd⟩ := j.get hi
  exact ws_lputA i hi (List.mem_iff_getElem?.mpr ⟨m, hm⟩) ha hb he hn (by rw [putC_set nd hm]; exact hΦ) hs hw h1 hx B0 B σ H0 H Dn j kk
end
/-- data that stands nowhere -/
def fltD : D → Bool
  | .non | .bl _ | .int _ | .str _ | .ad _ | .ty _ => true
  | _ => false
theorem DR.flat {K : PySem.W.Frag} {H H' : Hp} {d : D} {v : V} (f : fltD d = true) (h : DR K H d v) : DR K H' d v := by
  cases d <;> first | exact h | cases f
section
variable {K : PySem.W.Frag} {B0 B H : Hp} {σ : L2.St} {i : Nat} {d : D}
theorem shareAllX : ∀ {cs : Cs} {H0 : Hp} {ρ : En}, J K B0 B σ H0 H ρ → ρ[i]? = some (.ox cs d) → ∃ H0', J K B0 B σ H0' H (ρ.set i (.sh d)) ∧ Same H0 H0' ∧ (∀ p ∈ cs, DR K H0' p.2.d (.ref p.1)) ∧ (∀ b, b ∉ pl cs → H0' b = H0 b) ∧ ∀ b ∈ pl cs, H0 b = none
  | [], H0, ρ, j, h => by
    obtain ⟨ov, e1, h1, h2, h3⟩ := j.get h
    exact ⟨H0, j.setSl (s := .sh d) e1 h1 (fun a w => w.elim), Same.refl _, fun p hp => by simp at hp, fun _ _ => rfl, fun b hb => by simp at hb⟩
  | (a, c) :: cs, H0, ρ, j, h => by
    obtain ⟨ov, e1, ⟨v, h1, h1'⟩, h2, h3⟩ := j.get h
    obtain ⟨o, f1, f2, f3, f4⟩ := j.cell h (List.mem_cons_self ..)
    have nd := List.nodup_cons.mp h3
    have s0 : Same H0 (upd H0 a o) := fun b u e => upd_keep e (fun z => by subst z; rw [f2] at e; cases e)
    obtain ⟨j1, s1⟩ := j.shareAt (s' := .ox cs d) (c := c) h e1 (List.mem_cons_self ..) f1 f4 (fun b w => ⟨List.mem_cons_of_mem _ w, fun z => nd.1 (z ▸ w)⟩) fun r => ⟨⟨v, h1, DR.mono s0 _ _ h1'⟩, fun p hp => by
      obtain ⟨ob, g2, g3, g4, g5⟩ := (h2 p (List.mem_cons_of_mem _ hp)).ex
      exact ⟨ob, g2, by rw [upd_ne (fun z => nd.1 (by rw [← z]; exact List.mem_map.mpr ⟨p, hp, rfl⟩))]; exact g3, g4, g5.mono s0⟩, nd.2⟩
    obtain ⟨H1, j3, s3, r3, n3, z3⟩ := shareAllX (cs := cs) j1 (by rw [List.getElem?_set_self (List.getElem?_eq_some_iff.mp h).1])
    rw [List.set_set] at j3
    refine ⟨H1, j3, s1.trans s3, fun p hp => ?_, fun b hb => ?_, fun b hb => ?_⟩
    · rcases List.mem_cons.mp hp with rfl | hp
      · exact DR.mono s3 _ _ (OCR.dr f2 f4)
      · exact r3 p hp
    · have hb' : b ≠ a ∧ b ∉ pl cs := by simpa [pl] using hb
      rw [n3 b hb'.2, upd_ne hb'.1]
    · have hb' : b = a ∨ b ∈ pl cs := by simpa [pl] using hb
      rcases hb' with rfl | hb'
      · exact f2
      · have q := z3 b hb'
        by_cases e : b = a
        · subst e; exact f2
        · rwa [upd_ne e] at q
/-- what was shown is a slot's own again -/
theorem JH.unshow {H0 H1 H G0 G : Hp} {as : List Addr} (s : Same H0 H1) (n : ∀ b, b ∉ as → H1 b = H0 b) (z : ∀ b ∈ as, H0 b = none) (g : JH H1 H G0 G) : JH H0 H (ers G0 as) G :=
  ⟨fun b u e => by rw [ers_out fun hb => by rw [z b hb] at e; cases e]; exact g.s0 b u (s b u e), ers_sub.trans g.sh, g.sB, fun a o h nt e => by
    by_cases ha : a ∈ as
    · exact ers_in ha
    · rw [ers_out ha]; exact g.fr a o h nt (by rw [n a ha]; exact e)⟩
end
section
variable {X : Cx} {ρ : En} {e : Expr} {d d' d0 : D} {cs : Cs}
/-- the cells of slot i are shown while e is asked, which gives what stands nowhere -/
theorem ed_show (i : Nat) (d' : D) (hi : ρ[i]? = some (.ox cs d0)) (hd : ∀ (K : PySem.W.Frag) (H : Hp) v, (∀ p ∈ cs, DR K H p.2.d (.ref p.1)) → DR K H d0 v → DR K H d' v) (h : ED X (ρ.set i (.sh d')) e d) (hf : fltD d = true := by rfl) : ED X ρ e d := fun B0 B σ H0 H Q j kk => by
  obtain ⟨H1, j1, s1, r1, n1, z1⟩ := shareAllX j hi
  have hl : i < σ.length := by rw [j.len]; exact (List.getElem?_eq_some_iff.mp hi).1
  obtain ⟨ov, e1, v, e2, r2⟩ := j1.get (i := i) (s := .sh d0) (by rw [List.getElem?_set_self (by rw [← j.len]; exact hl)])
  have j2 := j1.setSl (i := i) (s := .sh d') e1 ⟨v, e2, hd _ _ v r1 r2⟩ fun a w => w.elim
  rw [List.set_set] at j2
  exact h B0 B σ H1 H Q j2 fun v G0 G g r => kk v (ers G0 (pl cs)) G (g.unshow s1 n1 z1) (DR.flat hf r)
theorem td_show (i : Nat) (d' : D) {k : Bool} (hi : ρ[i]? = some (.ox cs d0)) (hd : ∀ (K : PySem.W.Frag) (H : Hp) v, (∀ p ∈ cs, DR K H p.2.d (.ref p.1)) → DR K H d0 v → DR K H d' v) (h : TD X (ρ.set i (.sh d')) e k) : TD X ρ e k := fun B0 B σ H0 H Q j kk => by
  obtain ⟨H1, j1, s1, r1, n1, z1⟩ := shareAllX j hi
  have hl : i < σ.length := by rw [j.len]; exact (List.getElem?_eq_some_iff.mp hi).1
  obtain ⟨ov, e1, v, e2, r2⟩ := j1.get (i := i) (s := .sh d0) (by rw [List.getElem?_set_self (by rw [← j.len]; exact hl)])
  have j2 := j1.setSl (i := i) (s := .sh d') e1 ⟨v, e2, hd _ _ v r1 r2⟩ fun a w => w.elim
  rw [List.set_set] at j2
  exact h B0 B σ H1 H Q j2 fun G0 G g => kk (ers G0 (pl cs)) G (g.unshow s1 n1 z1)
end
end DL
namespace DL
open PySem PySem.Spec L2
structure Gr (xs ys : List Int) (R : List Row) : Prop where
  y : ∀ p ∈ R, p.1 ∈ ys ∧ p.2.1 ∈ ys
  x : ∀ p ∈ R, ∀ c ∈ p.2.2, c ∈ xs
theorem sub_len {l xs : List Int} (h : Asc l) (hs : ∀ c ∈ l, c ∈ xs) : l.length ≤ xs.length := by
  induction l generalizing xs with
  | nil => simp
  | cons c l ih =>
    have hp := List.pairwise_cons.mp h
    have := ih (xs := xs.erase c) hp.2 fun d hd => by
      have h1 := hs d (List.mem_cons_of_mem _ hd)
      have h2 := hp.1 d hd
      exact (List.mem_erase_of_ne (by omega)).mpr h1
    have hc := hs c List.mem_cons_self
    rw [List.length_erase_of_mem hc] at this
    have := List.length_pos_of_mem hc
    rw [List.length_cons]; omega
theorem Gr.edges {xs ys : List Int} {R : List Row} (g : Gr xs ys R) (h : ROk R) : ∀ p ∈ R, p.2.2.length ≤ xs.length := fun p hp => sub_len (h.ed p hp).asc (g.x p hp)
theorem Gr.row {xs ys : List Int} {R : List Row} (g : Gr xs ys R) (y : Int) : ∀ c ∈ rowAt R y, c ∈ xs := by
  rcases segVal_mem (e := ([] : List Int)) (l := R) (y := y) with e | ⟨p, h1, _, _, e⟩
  · unfold rowAt; rw [e]; simp
  · unfold rowAt; rw [← e]; exact g.x p h1
/-- rows that are fit: their form, and not too many -/
structure Fit (R : List Row) : Prop where
  ok : ROk R
  rows : R.length ≤ 1000
  edges : ∀ p ∈ R, p.2.2.length ≤ 1000
theorem Fit.row {R : List Row} (h : Fit R) (y : Int) : (rowAt R y).length ≤ 1000 := by
  rcases segVal_mem (e := ([] : List Int)) (l := R) (y := y) with e | ⟨p, h1, _, _, e⟩
  · unfold rowAt; rw [e]; simp
  · unfold rowAt; rw [← e]; exact h.edges p h1
end DL
namespace DL
open PySem PySem.Spec L2
def VB (bs : List Bx) : Prop := ∀ b ∈ bs, b.a < b.c ∧ b.b < b.d
end DL
namespace DL
open PySem PySem.Spec L2
def cut1 (w at_ : Int) (b : Bx) : List Bx :=
  if w = 1 ∧ 1 < b.c - b.a then [⟨b.a + 1 + at_ % (b.c - b.a - 1), b.b, b.c, b.d⟩, ⟨b.a, b.b, b.a + 1 + at_ % (b.c - b.a - 1), b.d⟩]
  else if w = 2 ∧ 1 < b.d - b.b then [⟨b.a, b.b + 1 + at_ % (b.d - b.b - 1), b.c, b.d⟩, ⟨b.a, b.b, b.c, b.b + 1 + at_ % (b.d - b.b - 1)⟩]
  else if w = 3 then [b, b]
  else if w = 4 ∧ 1 < b.c - b.a then [b, ⟨b.a, b.b, b.a + 1 + at_ % (b.c - b.a - 1), b.d⟩]
  else [b]
def bx_0 : Bx := ⟨0, 0, 0, 0⟩
def cutF (bs : List Bx) (c : Int) (n : Nat) : List Bx := (List.range n).flatMap fun (k : Nat) => cut1 (dr c 40 ((k : Int) % 39) % 6) (dr c 40 (((k : Int) + 7) % 39)) (bs.getD k bx_0)
def cutT (bs : List Bx) (c : Int) : Int := dr c 40 39 % (((cutF bs c bs.length).length : Int) + 1)
def cutB (bs : List Bx) (c : Int) : List Bx := (cutF bs c bs.length).drop (cutT bs c).toNat ++ (cutF bs c bs.length).take (cutT bs c).toNat
theorem getD_memB {bs : List Bx} {k : Nat} (h : k < bs.length) : bs.getD k bx_0 ∈ bs := by
  rw [List.getD_eq_getElem?_getD, List.getElem?_eq_getElem h]; exact List.getElem_mem h
end DL
namespace DL
open PySem PySem.Spec PyProof.Rows L2
section
variable {Jt : It} {n : Nat} {G : Hp → Prop} {Y : Nat → Hp → V → Hp → Prop}
theorem dc_it (w : Walk Jt n G Y) {g : TG} {tt : TT} {tk tv : TE} {vs : List Nat} {σ : L2.St} {H1 : Hp} {p : Addr} {Qd : Hp → Prop} (Pv : Nat → Hp → Prop) (h0 : Pv 0 (upd H1 p (.dK []))) (hG : ∀ i H, i ≤ n → Pv i H → G H)
    (hs : ∀ i x H H', i < n → Pv i H → Y i H x H' → g x (wipe σ vs) H' fun σ2 H2 => wipe σ2 vs = wipe σ vs ∧ tt σ2 H2 fun b H3 =>
      if b = true then tk σ2 H3 fun y H4 => tv σ2 H4 fun z H5 => ∃ kvs k, y = kV k ∧ H5 p = some (.dK kvs) ∧ kvs.length < sizeLine ∧ Pv (i + 1) (upd H5 p (.dK (putK kvs k z))) else Pv (i + 1) H3) (hd : ∀ H, Pv n H → Qd H) :
    ∃ W : Nat → Nat → Hp → Prop, (∃ m, W 0 m (upd H1 p (.dK []))) ∧ ∀ i m H, W i m H →
      (Jt.stop i H ∧ Qd H) ∨ (Jt.go i H ∧ ∃ Nx : Hp → Prop, (∀ H', Nx H' → ∃ m', m' < m ∧ W (i + 1) m' H') ∧ ∀ x H', Jt.yld i H x H' → g x (wipe σ vs) H' fun σ2 H2 => wipe σ2 vs = wipe σ vs ∧ tt σ2 H2 fun b H3 =>
        if b = true then tk σ2 H3 fun y H4 => tv σ2 H4 fun z H5 => ∃ kvs k, y = kV k ∧ H5 p = some (.dK kvs) ∧ kvs.length < sizeLine ∧ Nx (upd H5 p (.dK (putK kvs k z))) else Nx H3) := by
  refine ⟨fun i m H => i + m = n ∧ Pv i H, ⟨n, by omega, h0⟩, fun i m H ⟨e, q⟩ => ?_⟩
  have gq := hG i H (by omega) q
  cases m with
  | zero =>
    obtain rfl : i = n := by omega
    exact .inl ⟨w.stops H gq, hd H q⟩
  | succ m => exact .inr ⟨w.goes i H (by omega) gq, Pv (i + 1), fun H' q' => ⟨m, by omega, by omega, q'⟩, fun x H' y => hs i x H H' (by omega) q (w.yields i H x H' (by omega) gq y)⟩
end
section
variable {X : Cx} {ρ : En} {kx vx tg iter : Expr} {ifs : List Expr} {scope : Scope} {ds : List D} {cpos : Pos} {α : Type}
/-- one turn -/
def TurnD (X : Cx) (ρ : En) (scope : Scope) (vs : List Nat) (tg kx vx : Expr) (d : D) (k : Key) (v : D) : Prop :=
  ∃ ρ' : En, ρ'.length = ρ.length ∧ ∀ (s : Shared) (H : Hp) (C : Addr) (cl : List (Str × Addr)) (fp : List Addr), DG (X.blk s H scope (compEnvC scope cl C X.env) fp) vs tg d (wipeE ρ vs) ρ' ∧
    ED (X.blk s H scope (compEnvC scope cl C X.env) fp) ρ' kx (kD k) ∧ ED (X.blk s H scope (compEnvC scope cl C X.env) fp) ρ' vx v
theorem eo_dc (own : List (Str × Nat)) (xs : List α) (enc : α → D) (kf : α → Key) (vf : α → D) (hc : X.calm = true) (hN : X.N.Nodup) (ok : BlkOk X.N X.env.scope scope own) (hi : ID X ρ tg iter ds) (he : ds = xs.map enc) (nd : (xs.map kf).Nodup)
    (turn : ∀ x ∈ xs, TurnD X ρ scope (own.map (·.2)) tg kx vx (enc x) (kf x) (vf x)) (hl : xs.length ≤ sizeLine)
    (hs : ∀ x, foldedSetIterable iter X.env x = pure x := by intro _; rfl) : EO X ρ (.DictComp kx vx [⟨tg, iter, [], 0⟩] scope cpos) (.dk (xs.map kf) (xs.map vf)) := fun B0 B σ H0 H Q j k => by
  subst he
  refine RE.of (pe_dc hc hN pi_star ok (g := GB X scope tg) (tt := TB X scope []) (tk := EB X scope kx) (tv := EB X scope vx)
    (fun s H C cl fp => ⟨fun pins s1 σ1 H1 v u Q1 I r h => (pg_star (tg := tg)).run pins s1 σ1 H1 v u Q1 I r (h s H C cl fp)⟩)
    (fun s H C cl fp => ⟨fun pins s1 σ1 H1 Q1 I h => by obtain ⟨t, h1, h2⟩ := h s H C cl fp; exact h1.run pins s1 σ1 H1 Q1 I h2⟩)
    (fun s H C cl fp => ⟨fun pins s1 σ1 H1 Q1 I h => (pe_star (e := kx)).run pins s1 σ1 H1 Q1 I (h s H C cl fp)⟩)
    (fun s H C cl fp => ⟨fun pins s1 σ1 H1 Q1 I h => (pe_star (e := vx)).run pins s1 σ1 H1 Q1 I (h s H C cl fp)⟩) hs) ?_
  refine hi B0 B σ H0 H _ j fun Jt G0 G g0 ⟨GG, Y, w, hG, hY⟩ => fun Dn hD => ?_
  have j0 := j.grow g0
  rw [List.length_map] at w
  refine dc_it (g := GB X scope tg) (tt := TB X scope []) (tk := EB X scope kx) (tv := EB X scope vx) (vs := own.map (·.2)) (Qd := fun H => Q (.ref Dn) H) w
    (fun i H1 => ∃ L0 acc, JH G0 G L0 H1 ∧ H1 Dn = some (.dK (((xs.take i).map kf).zip acc)) ∧ L0 Dn = none ∧ acc.length = (xs.take i).length ∧ DRs X.K L0 ((xs.take i).map vf) acc) ⟨G0, [], JH.own g0.sh hD, upd_same, g0.sh.free hD, rfl, rfl⟩ (fun i H1 _ ⟨L0, acc, g1, _⟩ => hG L0 H1 g1.s0 g1.sh) ?_ ?_
  · rintro i x H1 H1' hi ⟨L0, acc, g1, hDn, hD0, hla, racc⟩ hy
    obtain ⟨z, hz⟩ : ∃ z, xs[i]? = some z := ⟨xs[i], by simp [hi]⟩
    obtain ⟨L1, g2, rx⟩ := hY i L0 H1 x H1' (enc z) (by rw [List.getElem?_map, hz]; rfl) g1.s0 g1.sh hy
    obtain ⟨ρ', hlen', turn⟩ := turn z (List.mem_of_getElem? hz)
    have j1 := ((j0.grow g1).grow g2).wipe (own.map (·.2))
    intro s Hs C cl fp
    refine (turn s Hs C cl fp).1 B0 B _ L1 H1' x _ j1 rx fun σ2 j2 off => ⟨wipe_back (by rw [j2.len, hlen', ← wipeE_length ρ (own.map (·.2)), ← j1.len, wipe_length]) off, ?_⟩
    have gg := g1.trans g2
    have hDn' := g2.sB _ _ hDn
    have hD0' : L1 Dn = none := g2.fr _ _ hDn trivial hD0
    have eT : xs.take (i + 1) = xs.take i ++ [z] := by rw [List.take_add_one, hz]; rfl
    intro s Hs C cl fp
    refine (tds_nil (X := X.blk s Hs scope (compEnvC scope cl C X.env) fp) (ρ := ρ')) B0 B σ2 L1 H1' _ j2 fun M0 M g3 => iteT fun s Hs C cl fp => ?_
    refine (turn s Hs C cl fp).2.1 B0 B σ2 M0 M _ (j2.grow g3) fun y N0 N g4 ry => fun s Hs C cl fp => ?_
    refine (turn s Hs C cl fp).2.2 B0 B σ2 N0 N _ ((j2.grow g3).grow g4) fun v P0 P g5 rv => ?_
    have g345 := (g3.trans g4).trans g5
    have h5 := g345.sB _ _ hDn'
    have h50 : P0 Dn = none := g345.fr _ _ hDn' trivial hD0'
    have gl := gg.trans g345
    have hle : ((xs.take i).map kf).length = acc.length := by rw [List.length_map, hla]
    have hnin : kf z ∉ (xs.take i).map kf := by
      have h1 : ((xs.take (i + 1)).map kf).Nodup := by rw [List.map_take]; exact nd.sublist (List.take_sublist ..)
      rw [eT, List.map_append, List.nodup_append] at h1
      exact fun q => h1.2.2 _ q (kf z) (by simp) rfl
    refine ⟨_, kf z, kD_val ry, h5, ?_, P0, acc ++ [v], ⟨gl.s0, fun b u e => upd_keep (gl.sh b u e) (ne_of_none e h50), fun b u e => upd_keep (gl.sB b u e) (ne_of_none e hD), gl.fr⟩, ?_, h50, ?_, ?_⟩
    · rw [List.length_zip, hle, Nat.min_self, hla, List.length_take]
      have : i < xs.length := hi
      omega
    · rw [upd_same, putK_zip hle hnin, eT, List.map_append]
      rfl
    · rw [List.length_append, hla, eT, List.length_append]; rfl
    · rw [eT, List.map_append]
      exact DRs.app (DRs.mono (g2.trans g345).s0 _ _ racc) (DRs.one rv)
  · rintro H1 ⟨L0, acc, g1, hDn, hD0, hla, racc⟩
    rw [List.take_length] at hDn hla racc
    exact k Dn _ L0 H1 (g0.trans g1) hDn hD0 (g0.sB.free hD) ⟨acc, rfl, by rw [List.length_map, hla], racc⟩
end
end DL
namespace DL
open PySem PySem.Spec PyProof.Rows L2
section
variable {X : Cx} {ρ : En} {elt tg iter : Expr} {scope : Scope} {ds : List D} {cpos pos : Pos} {Φ : Out → Prop}
variable {e a b : Expr} {d : D}
/-- list(range(n)) -/
theorem eo_listRg1 {n : Int} {p p2 q : Pos} (hc : X.calm = true) (hl : Gl X "list") (hml : X.mg "list" = none) (hr : Gl X "range") (hmr : X.mg "range" = none) (ha : ED X ρ a (.int n)) (h0 : 0 ≤ n) (h1 : n ≤ 10000)
    (s1 : starEach [a] X.env = (false, eval a X.env) :: starEach [] X.env := by rfl) (s2 : starEach [.Call (.Name "range" p2) [a] [] q] X.env = (false, eval (.Call (.Name "range" p2) [a] [] q) X.env) :: starEach [] X.env := by rfl) :
    EO X ρ (.Call (.Name "list" p) [.Call (.Name "range" p2) [a] [] q] [] pos) (.lst ((List.range n.toNat).map fun (i : Nat) => .int (i : Int))) := fun B0 B σ H0 H Q j k => by
  refine RE.of (pe_listRg hc hl hml (prg_1 hr hmr pe_star s1) s2) (ha B0 B σ H0 H _ j fun v G0 G g r => ?_)
  refine ⟨n, r, RgOk.of_le (by omega) (by omega) (by omega) (by omega), fun p hp => k p _ G0 _ (g.trans (JH.own g.sh hp)) upd_same (g.sh.free hp) (g.sB.free hp) ⟨_, rfl, ?_⟩⟩
  have := DRs.ofInts (K := X.K) (H := G0) ((List.range n.toNat).map fun (i : Nat) => (i : Int))
  rw [List.map_map, List.map_map] at this
  unfold rgV
  rw [Int.sub_zero]
  have e : (List.range n.toNat).map (fun (i : Nat) => V.int (0 + (i : Int))) = (List.range n.toNat).map (V.int ∘ fun (i : Nat) => (i : Int)) := List.map_congr_left fun i _ => by simp
  rw [e]
  exact this
end
end DL
namespace DL
open PySem PySem.Spec PyProof.Rows L2
local instance (priority := 2000) keyBEq25 : BEq Key := instBEqOfDecidableEq
section
variable {X : Cx} {ρ : En} {pos : Pos}
/-- a dict of the module, its keys texts: what stands at one of them -/
structure KdL (K : PySem.W.Frag) (w : World) (mg : Str → Option Value) (x z : Str) (d : D) : Prop where
  ex : ∃ p v, mg x = some (.ref p) ∧ KDct K w p z v ∧ ∀ H, DR K H d v
end
end DL
namespace DL
open PySem PySem.Spec L2
/-- in the order of a region -/
def Bef (b k : Bx) : Prop := b.d ≤ k.b ∨ (b.b = k.b ∧ b.d = k.d ∧ b.c < k.a)
abbrev ub (U : List Bx) (i : Nat) : Bx := U.getD i bx_0
structure Reg (U : List Bx) : Prop where
  v : VB U
  o : U.Pairwise Bef
theorem Reg.lt {U : List Bx} (h : Reg U) {i j : Nat} (hij : i < j) (hj : j < U.length) : Bef (ub U i) (ub U j) := by
  have := List.pairwise_iff_getElem.mp h.o i j (by omega) hj hij
  unfold ub
  rw [List.getD_eq_getElem?_getD, List.getD_eq_getElem?_getD, List.getElem?_eq_getElem (by omega), List.getElem?_eq_getElem hj]
  exact this
theorem Reg.ok {U : List Bx} (h : Reg U) {i : Nat} (hi : i < U.length) : (ub U i).a < (ub U i).c ∧ (ub U i).b < (ub U i).d := h.v _ (getD_memB hi)
/-- m lies wholly before what i can stand on -/
def Dd (U : List Bx) (m i : Nat) : Prop := (ub U m).d < (ub U i).b ∨ ((ub U m).d = (ub U i).b ∧ (ub U m).c ≤ (ub U i).a)
theorem Dd.mono {U : List Bx} (h : Reg U) {m i j : Nat} (d : Dd U m i) (hij : i ≤ j) (hj : j < U.length) : Dd U m j := by
  rcases Nat.lt_or_eq_of_le hij with q | q
  · have h1 := h.lt q hj
    have h2 := h.ok (i := i) (by omega)
    unfold Dd Bef at *
    omega
  · rw [← q]; exact d
end DL
namespace DL
open PySem PySem.Spec PyProof.Rows L2
/-- alike but for a dict at a, that is locked in one -/
structure Fz (a : Addr) (t : List (List Key × V)) (H H' : Hp) : Prop where
  at1 : Rd H a (.dT t)
  at2 : Rd H' a (.dT t)
  ne : ∀ b, b ≠ a → H' b = H b
theorem Rd.uniq {H : Hp} {a : Addr} {u w : HO} (h : Rd H a u) (k : Rd H a w) (hu : ∀ o x, u ≠ .frz o x) (hw : ∀ o x, w ≠ .frz o x) : u = w := by
  rcases h with h | ⟨o, h⟩ <;> rcases k with k | ⟨o', k⟩
  · exact Option.some.inj (h.symm.trans k)
  · exact absurd (Option.some.inj (h.symm.trans k)) (hu _ _)
  · exact absurd (Option.some.inj (k.symm.trans h)) (hw _ _)
  · have := Option.some.inj (h.symm.trans k); injection this
theorem Fz.rd {a : Addr} {t : List (List Key × V)} {H H' : Hp} (f : Fz a t H H') {b : Addr} {u : HO} (hu : ∀ o x, u ≠ .frz o x) (h : Rd H b u) : Rd H' b u := by
  by_cases e : b = a
  · subst e
    rw [Rd.uniq h f.at1 hu (fun _ _ z => by cases z)]
    exact f.at2
  · rcases h with h | ⟨o, h⟩
    · exact .inl (by rw [f.ne b e]; exact h)
    · exact .inr ⟨o, by rw [f.ne b e]; exact h⟩
mutual
theorem Fz.dr {K : PySem.W.Frag} {a : Addr} {t : List (List Key × V)} {H H' : Hp} (f : Fz a t H H') : ∀ (d : D) (v : V), DR K H d v → DR K H' d v
  | .non, v, h => h
  | .bl _, v, h => h
  | .int _, v, h => h
  | .str _, v, h => h
  | .ty _, v, h => h
  | .lst ds, v, h => by
    obtain ⟨b, vs, h1, h2, h3⟩ := h
    refine ⟨b, vs, h1, ?_, Fz.drs f ds vs h3⟩
    rcases h2 with h2 | h2
    · exact .inl (f.rd (fun _ _ z => by cases z) h2)
    · exact .inr h2
  | .tup ds, v, h => by
    obtain ⟨b, vs, h1, h2, h3⟩ := h
    refine ⟨b, vs, h1, ?_, Fz.drs f ds vs h3⟩
    rcases h2 with h2 | h2
    · exact .inl (f.rd (fun _ _ z => by cases z) h2)
    · exact .inr h2
  | .dk ks ds, v, h => by
    obtain ⟨b, vs, h1, h2, h4, h3⟩ := h
    exact ⟨b, vs, h1, f.rd (fun _ _ z => by cases z) h2, h4, Fz.drs f ds vs h3⟩
  | .dt ks ds, v, h => by
    obtain ⟨b, vs, h1, h2, h4, h3⟩ := h
    exact ⟨b, vs, h1, f.rd (fun _ _ z => by cases z) h2, h4, Fz.drs f ds vs h3⟩
  | .obj cn ns ds, v, h => by
    obtain ⟨b, C, dx, vs, h1, hn, h2, h4, h3⟩ := h
    refine ⟨b, C, dx, vs, h1, hn, ?_, h4, Fz.drs f ds vs h3⟩
    have e : b ≠ a := fun z => by
      subst z
      rcases f.at1 with q | ⟨o, q⟩ <;> rw [q] at h2 <;> cases h2
    rw [f.ne b e]; exact h2
  | .ad _, v, h => h
  | .exc _ x ns ds, v, h => by
    obtain ⟨h1, vs, h2, h4, h3⟩ := h
    refine ⟨h1, vs, ?_, h4, Fz.drs f ds vs h3⟩
    have e : x ≠ a := fun z => by
      subst z
      rcases f.at1 with q | ⟨od, q⟩ <;> rw [q] at h2 <;> cases h2
    rw [f.ne x e]; exact h2
  | .etp ds, v, h => by
    obtain ⟨b, vs, h1, h2, h3⟩ := h
    exact ⟨b, vs, h1, by
      have e : b ≠ a := fun z => by
        subst z
        rcases f.at1 with q | ⟨od, q⟩ <;> rw [q] at h2 <;> cases h2
      rw [f.ne b e]; exact h2, Fz.drs f ds vs h3⟩
  | .ptp ds, v, h => by
    obtain ⟨b, o, vs, h1, h2, h4, h3⟩ := h
    exact ⟨b, o, vs, h1, by
      have e : b ≠ a := fun z => by
        subst z
        rcases f.at1 with q | ⟨od, q⟩ <;> rw [q] at h2 <;> cases h2
      rw [f.ne b e]; exact h2, h4, Fz.drs f ds vs h3⟩
theorem Fz.drs {K : PySem.W.Frag} {a : Addr} {t : List (List Key × V)} {H H' : Hp} (f : Fz a t H H') : ∀ (ds : List D) (vs : List V), DRs K H ds vs → DRs K H' ds vs
  | [], vs, h => h
  | d :: ds, vs, h => by
    obtain ⟨v, r, h1, h2, h3⟩ := h
    exact ⟨v, r, h1, Fz.dr f d v h2, Fz.drs f ds r h3⟩
end
theorem Fz.oc {K : PySem.W.Frag} {a : Addr} {t : List (List Key × V)} {H H' : Hp} (f : Fz a t H H') : ∀ {c : OC} {o : HO}, OCR K H c o → OCR K H' c o
  | .lst _, _, ⟨vs, h1, h2⟩ => ⟨vs, h1, f.drs _ _ h2⟩
  | .dk _ _, _, ⟨vs, h1, h3, h2⟩ => ⟨vs, h1, h3, f.drs _ _ h2⟩
  | .dt _ _, _, ⟨vs, h1, h3, h2⟩ => ⟨vs, h1, h3, f.drs _ _ h2⟩
  | .fk _ _, _, ⟨vs, od, h1, h3, h2⟩ => ⟨vs, od, h1, h3, f.drs _ _ h2⟩
  | .ft _ _, _, ⟨vs, od, h1, h3, h2⟩ => ⟨vs, od, h1, h3, f.drs _ _ h2⟩
  | .ins _ _ _, _, ⟨vs, C, dx, h1, hn, h3, h2⟩ => ⟨vs, C, dx, h1, hn, h3, f.drs _ _ h2⟩
/-- the base within the loop -/
def baseF (B H0 : Hp) (a : Addr) (o : HO) : Hp := fun b => if b = a then some o else match B b with
  | some x => some x
  | none => H0 b
section
variable {K : PySem.W.Frag} {B0 B H0 H : Hp} {σ σ1 : L2.St} {ρ ρ1 : En} {a : Addr} {t : List (List Key × V)} {od : Obj}
theorem same_lock (s : Same H0 H) {o : HO} : Same (upd H0 a o) (upd H a o) := fun b u e => by
  by_cases hb : b = a
  · subst hb; rw [upd_same] at e ⊢; exact e
  · rw [upd_ne hb] at e ⊢; exact s b u e
theorem base_none {p : Addr} {o : HO} (h : baseF B H0 a o p = none) : p ≠ a ∧ B p = none := by
  unfold baseF at h
  by_cases hb : p = a
  · rw [if_pos hb] at h; cases h
  · rw [if_neg hb] at h
    refine ⟨hb, ?_⟩
    cases q : B p with
    | some x => rw [q] at h; cases h
    | none => rfl
end
section
variable {K : PySem.W.Frag} {B0 B H0 H : Hp} {σ σ1 : L2.St} {ρ ρ1 : En} {a : Addr} {o : HO}
theorem J.baseS (j : J K B0 B σ H0 H ρ) (h0 : H0 a = some o) : J K H0 (baseF B H0 a o) σ H0 H ρ := by
  have hne : ∀ p, H0 p = none → p ≠ a := fun p e z => by subst z; rw [h0] at e; cases e
  have hb : ∀ p, H0 p = none → B p = none → baseF B H0 a o p = none := fun p e1 e2 => by
    unfold baseF
    rw [if_neg (hne p e1), e2]; exact e1
  refine ⟨⟨fun _ _ e => e, j.same, fun b u e => ?_, fun b u e _ e0 => e0⟩, j.len, fun i s ov e1 e2 => ?_, j.dis⟩
  · unfold baseF at e
    by_cases hb : b = a
    · rw [if_pos hb] at e; subst hb; exact j.same _ _ (h0.trans e)
    · rw [if_neg hb] at e
      cases q : B b with
      | some x => rw [q] at e; cases e; exact j.hp.sB b _ q
      | none => rw [q] at e; exact j.same b u e
  · have q := j.sl i s ov e1 e2
    cases s with
    | no => trivial
    | sh d => exact q
    | ow c =>
      obtain ⟨p, o, f1, f2, f3, f4, f5⟩ := q
      exact ⟨p, o, f1, f2, f3, hb p f3 f4, f5⟩
    | ox cs d =>
      obtain ⟨g1, g3, g4⟩ := q
      refine ⟨g1, fun p hp => ?_, g4⟩
      obtain ⟨o, f2, f3, f4, f5⟩ := (g3 p hp).ex
      exact ⟨o, f2, f3, hb _ f3 f4, f5⟩
theorem JH.unbaseS (j : JH B0 B H0 H) (h0 : H0 a = some o) {L0 L : Hp} (g : JH H0 (baseF B H0 a o) L0 L) : JH B0 B L0 L := by
  refine ⟨j.s0.trans g.s0, g.sh, fun b u e => ?_, fun b u e nt e' => ?_⟩
  · by_cases hb : b = a
    · subst hb
      have h1 := j.sh _ _ h0
      have h2 := j.sB _ _ e
      rw [h1] at h2
      exact g.sh _ _ (g.s0 _ _ (h0.trans h2))
    · refine g.sB b u ?_
      unfold baseF
      rw [if_neg hb, e]
  · have q := j.fr b u e nt e'
    have hb : b ≠ a := fun z => by subst z; rw [h0] at q; cases q
    refine g.fr b u ?_ nt q
    unfold baseF
    rw [if_neg hb, e]
theorem J.unbaseS (j : JH B0 B H0 H) (h0 : H0 a = some o) {L0 L : Hp} (j1 : J K H0 (baseF B H0 a o) σ1 L0 L ρ1) : J K B0 B σ1 L0 L ρ1 := by
  refine ⟨j.unbaseS h0 j1.hp, j1.len, fun i s ov q1 q2 => ?_, j1.dis⟩
  have q := j1.sl i s ov q1 q2
  cases s with
  | no => trivial
  | sh d => exact q
  | ow c =>
    obtain ⟨p, o, f1, f2, f3, f4, f5⟩ := q
    exact ⟨p, o, f1, f2, f3, (base_none f4).2, f5⟩
  | ox cs d =>
    obtain ⟨g1, g3, g4⟩ := q
    refine ⟨g1, fun p hp => ?_, g4⟩
    obtain ⟨o, f2, f3, f4, f5⟩ := (g3 p hp).ex
    exact ⟨o, f2, f3, (base_none f4).2, f5⟩
end
theorem c2_notInSq {X : Cx} {p1 p2 : Int} {ks : List Sq} (hu : X.A.units + 64 < cLine) : C2 X .NotIn (.tup [.int p1, .int p2]) (dicD ks).d (.bl (!decide ((p1, p2) ∈ ks))) := ⟨_, op_notInSq (by omega), fun H0 H x y Q s r1 r2 kk => by
  obtain ⟨b, vs, rfl, f1, r⟩ := r1
  obtain ⟨u, w, rfl, e2, e3⟩ := r.two
  cases (show u = .int p1 from e2); cases (show w = .int p2 from e3)
  obtain ⟨a, rfl, h1⟩ := dr_dic r2
  exact ⟨a, b, _, kq (p1, p2), rfl, rfl, Same.rd s h1, Same.seqT s f1, by rw [tT_val]; exact kk _ H0 H (JH.refl s) rfl⟩⟩
end DL
namespace DL
open PySem PySem.Spec PyProof.Rows L2
theorem srt_two {x y : Int} : srtI [x, y] = [min x y, max x y] := by
  refine (srtI_eq ?_ ?_).symm
  · by_cases h : x ≤ y
    · rw [Int.min_eq_left h, Int.max_eq_right h]
    · rw [Int.min_eq_right (by omega), Int.max_eq_left (by omega)]; exact List.Perm.swap _ _ _
  · simp; omega
section
variable {X : Cx} {ρ : En} {e : Expr} {pos : Pos} {Φ : Out → Prop} {Ψ : D → En → Prop}
/-- sorted([e1, e2]) of two ints -/
theorem ep_sorted2 {e1 e2 : Expr} {p p2 : Pos} {Ψ1 : D → En → Prop} {Ψ2 : D → En → D → En → Prop} (hg : Gl X "sorted") (hm : X.mg "sorted" = none) (h1 : EP X ρ e1 Ψ1) (h2 : ∀ d ρ', Ψ1 d ρ' → EP X ρ' e2 (Ψ2 d ρ')) (hi1 : ∀ d ρ', Ψ1 d ρ' → ∃ x, d = .int x) (hi2 : ∀ d ρ' d2 ρ2, Ψ2 d ρ' d2 ρ2 → ∃ x, d2 = .int x)
    (s1 : starEach [e1, e2] X.env = (false, eval e1 X.env) :: starEach [e2] X.env := by rfl) (s2 : starEach [e2] X.env = (false, eval e2 X.env) :: starEach [] X.env := by rfl)
    (s3 : starEach [.List [e1, e2] p2] X.env = (false, eval (.List [e1, e2] p2) X.env) :: starEach [] X.env := by rfl) (hpl : (backTo pos (starEach [] X.env)).any (·.1) = false := by rfl) :
    EP X ρ (.Call (.Name "sorted" p) [.List [e1, e2] p2] [] pos) (fun d ρ2 => ∃ x y ρ1, Ψ1 (.int x) ρ1 ∧ Ψ2 (.int x) ρ1 (.int y) ρ2 ∧ d = .lst [.int (min x y), .int (max x y)]) := fun B0 B σ H0 H Q j k => by
  refine RE.of (pe_callB cr_sortedI hg hm bb_sorted (pa_cons (pe_lst (pa_cons pe_star (pa_cons pe_star pa_nil s2) s1)) pa_nil s3) (by decide) (by decide) s3 hpl) ?_
  refine h1 B0 B σ H0 H _ j fun d1 ρ1 v1 G0 G w1 t1 j1 r1 => ?_
  obtain ⟨x, rfl⟩ := hi1 d1 ρ1 w1
  cases (show v1 = .int x from r1)
  refine h2 _ ρ1 w1 B0 B σ G0 G _ j1 fun d2 ρ2 v2 L0 L w2 t2 j2 r2 => ?_
  obtain ⟨y, rfl⟩ := hi2 _ _ d2 ρ2 w2
  cases (show v2 = .int y from r2)
  refine ⟨by simp only [List.length_cons, List.length_nil]; decide, fun l hl => ?_⟩
  have g2 : JH L0 L (upd L0 l (.lst [.int x, .int y])) (upd L l (.lst [.int x, .int y])) := JH.new j2.hp.sh hl
  have j3 := j2.grow g2
  refine ⟨l, [x, y], rfl, SqL.of upd_same, fun zs p hz1 hz2 hp => ?_⟩
  have e : zs = [min x y, max x y] := (srtI_eq hz1 hz2).trans srt_two
  subst e
  have g3 := JH.new (o := .lst ([min x y, max x y].map V.int)) j3.hp.sh hp
  exact k _ ρ2 _ _ _ ⟨x, y, ρ1, w1, w2, rfl⟩ ((t1.trans t2).trans (g2.s0.trans g3.s0)) (j3.grow g3) ⟨p, _, rfl, SqL.of upd_same, DRs.ofInts [min x y, max x y]⟩
end
/-- f: what is at the root of each -/
structure UF (L : List Nat) (f : Nat → Nat) : Prop where
  le : ∀ i, i < L.length → L.getD i 0 ≤ i
  up : ∀ i, i < L.length → f (L.getD i 0) = f i
  rt : ∀ i, i < L.length → L.getD i 0 = i → f i = i
  lo : ∀ i, f i ≤ i
  id : ∀ i, f (f i) = f i
theorem getD_set {L : List Nat} {a b i : Nat} (ha : a < L.length) : (L.set a b).getD i 0 = if i = a then b else L.getD i 0 := by
  rw [List.getD_eq_getElem?_getD, List.getD_eq_getElem?_getD, List.getElem?_set]
  by_cases h : a = i
  · subst h; rw [if_pos rfl, if_pos rfl, if_pos ha]; rfl
  · rw [if_neg h, if_neg (fun z => h z.symm)]
/-- one step on the way to the root: the link goes two up -/
theorem UF.halve {L : List Nat} {f : Nat → Nat} (u : UF L f) {a : Nat} (ha : a < L.length) (hn : L.getD a 0 ≠ a) : UF (L.set a (L.getD (L.getD a 0) 0)) f ∧ L.getD (L.getD a 0) 0 < a ∧ f (L.getD (L.getD a 0) 0) = f a := by
  have h1 := u.le a ha
  have h2 : L.getD a 0 < a := by omega
  have h3 := u.le (L.getD a 0) (by omega)
  have e : f (L.getD (L.getD a 0) 0) = f a := by rw [u.up _ (by omega), u.up a ha]
  refine ⟨⟨fun i hi => ?_, fun i hi => ?_, fun i hi h => ?_, u.lo, u.id⟩, by omega, e⟩
  · rw [List.length_set] at hi
    rw [getD_set ha]; split
    · omega
    · exact u.le i hi
  · rw [List.length_set] at hi
    rw [getD_set ha]; split
    · subst_vars; exact e
    · exact u.up i hi
  · rw [List.length_set] at hi
    rw [getD_set ha] at h
    split at h
    · omega
    · exact u.rt i hi h
def uni (f : Nat → Nat) (i j : Nat) : Nat → Nat := fun k => if f k = max (f i) (f j) then min (f i) (f j) else f k
theorem UF.unite {L : List Nat} {f : Nat → Nat} (u : UF L f) {i j : Nat} (hi : i < L.length) (hj : j < L.length) : UF (L.set (max (f i) (f j)) (min (f i) (f j))) (uni f i j) := by
  have li := u.lo i; have lj := u.lo j
  have hm : max (f i) (f j) < L.length := by omega
  have rM : f (max (f i) (f j)) = max (f i) (f j) := by
    rcases Nat.le_total (f i) (f j) with h | h
    · rw [Nat.max_eq_right h]; exact u.id j
    · rw [Nat.max_eq_left h]; exact u.id i
  have rm : f (min (f i) (f j)) = min (f i) (f j) := by
    rcases Nat.le_total (f i) (f j) with h | h
    · rw [Nat.min_eq_left h]; exact u.id i
    · rw [Nat.min_eq_right h]; exact u.id j
  refine ⟨fun k hk => ?_, fun k hk => ?_, fun k hk h => ?_, fun k => ?_, fun k => ?_⟩
  · rw [List.length_set] at hk
    rw [getD_set hm]; split
    · omega
    · exact u.le k hk
  · rw [List.length_set] at hk
    rw [getD_set hm]; split
    · subst_vars
      unfold uni
      rw [rM, if_pos rfl, rm]
      split <;> rfl
    · unfold uni; rw [u.up k hk]
  · rw [List.length_set] at hk
    rw [getD_set hm] at h
    split at h
    · subst_vars
      have e : f i = f j := by omega
      unfold uni
      rw [rM, if_pos rfl]; omega
    · have := u.rt k hk h
      unfold uni
      rw [this]
      rw [if_neg (by assumption)]
  · unfold uni; split
    · have := u.lo k; omega
    · exact u.lo k
  · unfold uni
    by_cases h : f k = max (f i) (f j)
    · rw [if_pos h, rm]; split <;> rfl
    · rw [if_neg h, u.id k, if_neg h]
theorem uf_start (n : Nat) : UF (List.range n) (fun i => i) := by
  have e : ∀ i, i < (List.range n).length → (List.range n).getD i 0 = i := fun i hi => by
    rw [List.length_range] at hi
    rw [List.getD_eq_getElem?_getD, List.getElem?_range hi]; rfl
  exact ⟨fun i hi => by rw [e i hi]; exact Nat.le_refl _, fun i hi => e i hi, fun i hi _ => rfl, fun i => Nat.le_refl _, fun i => rfl⟩
/-- all pairs united -/
def unis (ps : List (Nat × Nat)) : Nat → Nat := ps.foldl (fun f p => uni f p.1 p.2) (fun i => i)
theorem unis_snoc (ps : List (Nat × Nat)) (p : Nat × Nat) : unis (ps ++ [p]) = uni (unis ps) p.1 p.2 := by unfold unis; rw [List.foldl_append]; rfl
/-- the how-manieth group -/
def gix (f : Nat → Nat) (i : Nat) : Nat := (List.range (f i)).countP fun j => decide (f j = j)
def natD (i : Nat) : D := .int (i : Int)
abbrev grpN : List Str := ["_links"]
abbrev grpC (a p : Addr) (L : List Nat) : Cs := [(a, .ins "Groups" grpN [.ad p]), (p, .lst (L.map natD))]
theorem at_lnk {L : List Nat} {i : Nat} (h : i < L.length) : atI (L.map natD) (i : Int) = some (natD (L.getD i 0)) := by
  refine atI_nn (by omega) ?_
  rw [Int.toNat_natCast, List.getElem?_map, List.getElem?_eq_getElem h, List.getD_eq_getElem?_getD, List.getElem?_eq_getElem h]; rfl
theorem at_gix {f : Nat → Nat} {i n : Nat} (h : i < n) : atI ((List.range n).map fun k => natD (gix f k)) (i : Int) = some (natD (gix f i)) := by
  refine atI_nn (by omega) ?_
  rw [Int.toNat_natCast, List.getElem?_map, List.getElem?_range h]; rfl
end DL
namespace DL
theorem ixN_nat {n j : Nat} (h : j < n) : L2.ixN n (j : Int) = some j := by
  unfold L2.ixN
  rw [if_pos (by omega)]
  simp [h]
end DL
namespace DL
theorem gix_app (f : Nat → Nat) (i : Nat) : (List.range (i + 1)).map (fun k => natD (gix f k)) = (List.range i).map (fun k => natD (gix f k)) ++ [natD (gix f i)] := by rw [List.range_succ, List.map_append]; rfl
theorem cnt_app (f : Nat → Nat) (i : Nat) : (List.range (i + 1)).countP (fun j => decide (f j = j)) = (List.range i).countP (fun j => decide (f j = j)) + (if f i = i then 1 else 0) := by
  rw [List.range_succ, List.countP_append, List.countP_cons, List.countP_nil]
  by_cases h : f i = i <;> simp [h]
end DL
namespace DL
theorem nat_max (a b : Nat) : max (a : Int) (b : Int) = ((max a b : Nat) : Int) := by omega
theorem nat_min (a b : Nat) : min (a : Int) (b : Int) = ((min a b : Nat) : Int) := by omega
end DL
namespace DL
open PySem L2
def tI (t : List Int) : D := .tup (t.map .int)
def ltr : Str := "abcdefghijklmnopqrstuvwxyz"
def tls : List Str := ["", "1", "n2", "ab", "z9", "q0q"]
theorem ltr_len : ltr.cps.toList.length = 26 := by decide +kernel
theorem at_ltr {i : Int} (h0 : 0 ≤ i) (h1 : i < 26) : atI ltr.cps.toList i = some (ltr.cps.toList.getD i.toNat 0) := by
  refine atI_nn h0 ?_
  have : i.toNat < ltr.cps.toList.length := by rw [ltr_len]; omega
  rw [List.getD_eq_getElem?_getD, List.getElem?_eq_getElem this]; rfl
theorem at_tls {i : Int} (h0 : 0 ≤ i) (h1 : i < 6) : atI (tls.map D.str) i = some (.str (tls.getD i.toNat "")) := by
  refine atI_nn h0 ?_
  have : i.toNat < tls.length := by show i.toNat < 6; omega
  rw [List.getElem?_map, List.getD_eq_getElem?_getD, List.getElem?_eq_getElem this]; rfl
theorem tls_len (i : Nat) : (tls.getD i "").length ≤ 3 := by
  match i with
  | 0 => decide +kernel
  | 1 => decide +kernel
  | 2 => decide +kernel
  | 3 => decide +kernel
  | 4 => decide +kernel
  | 5 => decide +kernel
  | i + 6 => 
    rw [List.getD_eq_getElem?_getD, List.getElem?_eq_none (by show 6 ≤ i + 6; omega)]
    decide +kernel
def nmOf (d : Int) : Str := (⟨#[ltr.cps.toList.getD (d % 26).toNat 0]⟩ : Str) ++ tls.getD (d / 26 % 6).toNat ""
end DL
namespace DL
open PySem PySem.Spec PyProof.Rows L2
open PySem.W (AllAlike Sortable dataLe alike)
def loB (c : Nat) : Bool := decide (97 ≤ c) && decide (c ≤ 122)
def chB (c : Nat) : Bool := loB c || (decide (48 ≤ c) && decide (c ≤ 57))
def nameB (x : Str) : Bool := (decide (1 ≤ x.length) && decide (x.length ≤ 12)) && (loB (x.cps.toList.getD 0 0) && x.cps.toList.all chB)
structure Dev where
  k : Str
  g : Int
  a : Int
  b : Int
  w : Int
  l : Int
deriving DecidableEq
def Dev.e (v : Dev) : D := .tup [.str v.k, .int v.g, .int v.a, .int v.b, .int v.w, .int v.l]
abbrev Nm := Int × Str
def nmE (q : Nm) : D := .tup [.int q.1, .str q.2]
structure DevOk (n : Int) (v : Dev) : Prop where
  k : v.k = ("n" : Str) ∨ v.k = ("p" : Str)
  g : 0 ≤ v.g ∧ v.g < n
  e : 0 ≤ v.a ∧ v.a ≤ v.b ∧ v.b < n
  w : 1 ≤ v.w
  l : 1 ≤ v.l
structure CirOk (n : Int) (N : List Nm) (V : List Dev) : Prop where
  nn : 0 ≤ n ∧ n ≤ 200
  nm : ∀ q ∈ N, (0 ≤ q.1 ∧ q.1 < n) ∧ nameB q.2 = true
  d1 : (N.map (·.1)).Nodup
  d2 : (N.map (·.2)).Nodup
  nl : N.length ≤ 1000
  vl : V.length ≤ 200
  dv : ∀ v ∈ V, DevOk n v
noncomputable def srtN (N : List Nm) : List Nm := srtK nmE N
theorem nm_py (q : Nm) : (nmE q).py = .tuple [.int q.1, .str q.2] := rfl
theorem nm_sort {A : Around} {N : List Nm} (hu : A.units + 64 < cLine) : KeyOk A nmE N := by
  refine ⟨fun q _ => rfl, fun d hd d' hd' => ?_, .inl fun d hd => ?_, fun q _ => ?_⟩
  · obtain ⟨q, _, rfl⟩ := List.mem_map.mp hd
    obtain ⟨q', _, rfl⟩ := List.mem_map.mp hd'
    simp [nm_py, alike, PySem.W.alikeAll]
  · obtain ⟨q, _, rfl⟩ := List.mem_map.mp hd
    exact ⟨_, _, rfl⟩
  · rw [nm_py]
    have : (PyData.tuple [.int q.1, .str q.2]).depth ≤ 8 := by simp [PyData.depth, PyData.depthAll]
    omega
theorem srtN_perm (N : List Nm) : (srtN N).Perm N := srtK_perm nmE N
theorem srtN_len (N : List Nm) : (srtN N).length = N.length := (srtN_perm N).length_eq
noncomputable abbrev cirV (n : Int) (N : List Nm) (V : List Dev) : List D := [.int n, .tup ((srtN N).map nmE), .tup (V.map Dev.e), .dk ((srtN N).map fun q => Sum.inl q.1) ((srtN N).map fun q => D.str q.2)]
noncomputable abbrev cirD (n : Int) (N : List Nm) (V : List Dev) : D := .obj "Circuit" ["net_count", "names", "devices", "_name_table"] (cirV n N V)
theorem at_first {x : Str} {k : Bool} (h : (!(decide ((1 : Int) ≤ (x.length : Int)) && k)) = false) : atI x.cps.toList 0 = some (x.cps.toList.getD 0 0) := by
  have h1 : 1 ≤ x.length := by
    simp only [Bool.not_eq_false', Bool.and_eq_true, decide_eq_true_eq] at h
    omega
  refine atI_nn (by decide) ?_
  have : (0 : Int).toNat < x.cps.toList.length := by rw [Array.length_toList]; exact h1
  rw [List.getElem?_eq_getElem this, List.getD_eq_getElem?_getD, List.getElem?_eq_getElem (by exact this)]
  rfl
theorem name_no {x : Str} (h : ((!(decide ((1 : Int) ≤ (x.length : Int)) && decide ((x.length : Int) ≤ 12))) || (!(decide (97 ≤ x.cps.toList.getD 0 0) && decide (x.cps.toList.getD 0 0 ≤ 122)))) = true) : nameB x = false := by
  unfold nameB loB
  rw [show decide (1 ≤ x.length) = decide ((1 : Int) ≤ (x.length : Int)) from decide_eq_decide.mpr (by omega), show decide (x.length ≤ 12) = decide ((x.length : Int) ≤ 12) from decide_eq_decide.mpr (by omega)]
  revert h
  generalize (decide ((1 : Int) ≤ (x.length : Int)) && decide ((x.length : Int) ≤ 12)) = p
  generalize (decide (97 ≤ x.cps.toList.getD 0 0) && decide (x.cps.toList.getD 0 0 ≤ 122)) = q
  cases p <;> cases q <;> simp
theorem name_yes {x : Str} (h : ((!(decide ((1 : Int) ≤ (x.length : Int)) && decide ((x.length : Int) ≤ 12))) || (!(decide (97 ≤ x.cps.toList.getD 0 0) && decide (x.cps.toList.getD 0 0 ≤ 122)))) = false) : nameB x = (x.cps.toList.map chB).all id := by
  unfold nameB loB
  rw [show decide (1 ≤ x.length) = decide ((1 : Int) ≤ (x.length : Int)) from decide_eq_decide.mpr (by omega), show decide (x.length ≤ 12) = decide ((x.length : Int) ≤ 12) from decide_eq_decide.mpr (by omega)]
  revert h
  generalize (decide ((1 : Int) ≤ (x.length : Int)) && decide ((x.length : Int) ≤ 12)) = p
  generalize (decide (97 ≤ x.cps.toList.getD 0 0) && decide (x.cps.toList.getD 0 0 ≤ 122)) = q
  cases p <;> cases q <;> simp [List.all_map]
def devB (n : Int) (v : Dev) : Bool := (decide (v.k ∈ (["n", "p"] : List Str)) && ((decide (0 ≤ v.g) && decide (v.g < n)) && ((decide (0 ≤ v.a) && (decide (v.a ≤ v.b) && decide (v.b < n))) && (decide (1 ≤ v.w) && decide (1 ≤ v.l)))))
theorem dev_ok {v : Dev} {n : Int} (h : DevOk n v) : (decide (v.k ∈ (["n", "p"] : List Str)) && ((decide (0 ≤ v.g) && decide (v.g < n)) && ((decide (0 ≤ v.a) && (decide (v.a ≤ v.b) && decide (v.b < n))) && (decide (1 ≤ v.w) && decide (1 ≤ v.l))))) = true := by
  have h1 : v.k ∈ (["n", "p"] : List Str) := by
    rcases h.k with e | e <;> rw [e] <;> simp
  simp [h1, h.g.1, h.g.2, h.e.1, h.e.2.1, h.e.2.2, h.w, h.l]
theorem bc_lenSeq {X : Cx} {d : D} {ds : List D} (h : SeqD d ds) : BC X (.builtin "len") [d] (.int ds.length) := by
  cases h with
  | lst => exact bc_lenL
  | tup => exact bc_lenT
theorem bc_tupSeq {X : Cx} {d : D} {ds : List D} (h : SeqD d ds) : BC X (.type "tuple") [d] (.tup ds) := by
  cases h with
  | lst => exact bc_tupL
  | tup => exact bc_tupT
def namesB (N : List Nm) (n : Int) : Bool := N.all (fun q => (decide (0 ≤ q.1) && decide (q.1 < n)) && nameB q.2) && (decide ((ddK (N.map fun q => Sum.inl q.1)).length = N.length) && decide ((ddK (N.map fun q => Sum.inr q.2)).length = N.length))
theorem namesB_eq (N : List Nm) (n : Int) : namesB N n = (((N.map fun q : Nm => (decide (0 ≤ q.1) && decide (q.1 < n)) && nameB q.2).all id) && (decide ((((ddK (N.map fun q : Nm => (Sum.inl q.1 : Key))).length : Nat) : Int) = ((N.map nmE).length : Int)) && decide ((((ddK (N.map fun q : Nm => (Sum.inr q.2 : Key))).length : Nat) : Int) = ((N.map nmE).length : Int)))) := by
  unfold namesB
  rw [List.all_map, List.length_map]
  rw [show decide ((ddK (N.map fun q => Sum.inl q.1)).length = N.length) = decide (((ddK (N.map fun q => Sum.inl q.1)).length : Int) = (N.length : Int)) from decide_eq_decide.mpr (by omega), show decide ((ddK (N.map fun q => Sum.inr q.2)).length = N.length) = decide (((ddK (N.map fun q => Sum.inr q.2)).length : Int) = (N.length : Int)) from decide_eq_decide.mpr (by omega)]
  rfl
theorem nameB_len {x : Str} (h : nameB x = true) : x.length ≤ 12 := by
  unfold nameB at h
  simp only [Bool.and_eq_true, decide_eq_true_eq] at h
  exact h.1.2
theorem CirOk.short {n : Int} {N : List Nm} {V : List Dev} (ok : CirOk n N V) : ∀ q ∈ N, q.2.length ≤ 1000 := fun q hq => by
  have := nameB_len (ok.nm q hq).2; omega
theorem nodup_inl {N : List Nm} (h : (N.map (·.1)).Nodup) : (N.map fun q : Nm => (Sum.inl q.1 : Key)).Nodup := by
  have : (N.map fun q : Nm => (Sum.inl q.1 : Key)) = (N.map (·.1)).map Sum.inl := by rw [List.map_map]; rfl
  rw [this]
  exact List.Pairwise.map _ (fun a b hab e => hab (Sum.inl.inj e)) h
theorem nodup_inr {N : List Nm} (h : (N.map (·.2)).Nodup) : (N.map fun q : Nm => (Sum.inr q.2 : Key)).Nodup := by
  have : (N.map fun q : Nm => (Sum.inr q.2 : Key)) = (N.map (·.2)).map Sum.inr := by rw [List.map_map]; rfl
  rw [this]
  exact List.Pairwise.map _ (fun a b hab e => hab (Sum.inr.inj e)) h
theorem CirOk.namesB {n : Int} {N : List Nm} {V : List Dev} (ok : CirOk n N V) : DL.namesB N n = true := by
  unfold DL.namesB
  rw [ddK_nodup _ (nodup_inl ok.d1), ddK_nodup _ (nodup_inr ok.d2), List.length_map, List.length_map]
  simp only [decide_true, Bool.and_true, List.all_eq_true, Bool.and_eq_true, decide_eq_true_eq]
  intro q hq
  exact ok.nm q hq
def nmK (q : Nm) : Key × D := (.inl q.1, .str q.2)
theorem nmK_D (N : List Nm) : N.map nmE = (N.map nmK).map prD := by rw [List.map_map]; rfl
theorem CirOk.keys {n : Int} {N : List Nm} {V : List Dev} (ok : CirOk n N V) : (((srtN N).map nmK).map (·.1)).Nodup := by
  rw [List.map_map]
  exact nodup_inl (((srtN_perm N).map (·.1)).nodup_iff.mpr ok.d1)
theorem cirWk {K : PySem.W.Frag} {n : Int} {N : List Nm} {W : List Dev} (H : Hp) (vs : List V) (h : DRs K H [.int n, .ptp ((srtN N).map nmE), .tup (W.map Dev.e), .dk (((srtN N).map nmK).map (·.1)) (((srtN N).map nmK).map (·.2))] vs) : DRs K H (cirV n N W) vs := by
  obtain ⟨v1, r1, rfl, h1, v2, r2, rfl, h2, v3, r3, rfl, h3, v4, r4, rfl, h4, h5⟩ := h
  rw [List.map_map, List.map_map] at h4
  exact ⟨v1, _, rfl, h1, v2, _, rfl, ptp_tup h2, v3, _, rfl, h3, v4, _, rfl, h4, h5⟩
end DL
namespace DL
open PySem PySem.Spec PyProof.Rows L2
def nmPre (d : Int) : Str := cutS (nmOf d) none (some 7)
def qStr (d : Int) (net : Nat) : Str := (nmPre d ++ ("k" : Str)) ++ (Str.ofString (toString (net : Int)))
def preOk (x : Str) : Bool := (decide (1 ≤ x.length) && decide (x.length ≤ 4)) && (loB (x.cps.toList.getD 0 0) && x.cps.toList.all chB)
theorem pre_all : ∀ a : Fin 26, ∀ b : Fin 6, preOk (cutS ((⟨#[ltr.cps.toList.getD a.val 0]⟩ : Str) ++ tls.getD b.val "") none (some 7)) = true := by decide +kernel
theorem pre_ok (d : Int) : preOk (nmPre d) = true := by
  have h1 : (d % 26).toNat < 26 := by omega
  have h2 : (d / 26 % 6).toNat < 6 := by omega
  exact pre_all ⟨_, h1⟩ ⟨_, h2⟩
def digB (c : Nat) : Bool := decide (48 ≤ c) && decide (c ≤ 57)
theorem dig_all : ∀ a : Fin 64, let x := Str.ofString (toString ((a.val : Nat) : Int)); (decide (1 ≤ x.length) && decide (x.length ≤ 2) && x.cps.toList.all digB) = true := by decide +kernel
theorem dig_inj : ∀ a b : Fin 64, (Str.ofString (toString ((a.val : Nat) : Int))).cps.toList = (Str.ofString (toString ((b.val : Nat) : Int))).cps.toList → a = b := by decide +kernel
theorem all_app {x y : Str} {p : Nat → Bool} : (x ++ y).cps.toList.all p = (x.cps.toList.all p && y.cps.toList.all p) := by
  show (x.cps ++ y.cps).toList.all p = _
  rw [Array.toList_append, List.all_append]
theorem len_app (x y : Str) : (x ++ y).length = x.length + y.length := Array.size_append
theorem cps_app (x y : Str) : (x ++ y).cps.toList = x.cps.toList ++ y.cps.toList := by
  show (x.cps ++ y.cps).toList = _
  rw [Array.toList_append]
theorem dig_ok {n : Nat} (h : n < 64) : (1 ≤ (Str.ofString (toString (n : Int))).length ∧ (Str.ofString (toString (n : Int))).length ≤ 2) ∧ (Str.ofString (toString (n : Int))).cps.toList.all digB = true := by
  have := dig_all ⟨n, h⟩
  simp only [Bool.and_eq_true, decide_eq_true_eq] at this
  exact this
theorem chB_of {c : Nat} (h : digB c = true) : chB c = true := by
  unfold chB; unfold digB at h; rw [h, Bool.or_true]
theorem qStr_ok (d : Int) {n : Nat} (h : n < 64) : nameB (qStr d n) = true := by
  have h1 := pre_ok d
  have h2 := dig_ok h
  unfold preOk at h1
  simp only [Bool.and_eq_true, decide_eq_true_eq] at h1
  obtain ⟨⟨l1, l2⟩, f, a⟩ := h1
  have lk : ("k" : Str).length = 1 := by decide +kernel
  have ak : ("k" : Str).cps.toList.all chB = true := by decide +kernel
  unfold nameB qStr
  rw [len_app, len_app, lk, all_app, all_app, a, ak, cps_app, cps_app]
  have hne : (nmPre d).cps.toList ≠ [] := fun e => by
    have : (nmPre d).cps.toList.length = 0 := by rw [e]; rfl
    rw [Array.length_toList] at this
    have l1' : 1 ≤ (nmPre d).cps.size := l1
    omega
  have hf : ((nmPre d).cps.toList ++ ("k" : Str).cps.toList ++ (Str.ofString (toString (n : Int))).cps.toList).getD 0 0 = (nmPre d).cps.toList.getD 0 0 := by
    cases q : (nmPre d).cps.toList with
    | nil => exact absurd q hne
    | cons c r => rfl
  rw [hf, f]
  have hd : (Str.ofString (toString (n : Int))).cps.toList.all chB = true := List.all_eq_true.mpr fun c hc => chB_of (List.all_eq_true.mp h2.2 c hc)
  rw [hd]
  simp only [Bool.and_true, Bool.and_eq_true, decide_eq_true_eq]
  omega
theorem tail_eq {x : Nat} {P P' D D' : List Nat} (hD : ∀ c ∈ D, c ≠ x) (hD' : ∀ c ∈ D', c ≠ x) (h : P ++ x :: D = P' ++ x :: D') : D = D' := by
  have h1 : ∀ (P D : List Nat), (∀ c ∈ D, c ≠ x) → ((P ++ x :: D).reverse.takeWhile (fun c => decide (c ≠ x))) = D.reverse := fun P D hD => by
    rw [List.reverse_append, List.reverse_cons, List.append_assoc, List.takeWhile_append_of_pos]
    · simp
    · intro c hc
      exact decide_eq_true (hD c (List.mem_reverse.mp hc))
  have := congrArg (fun l => l.reverse.takeWhile (fun c => decide (c ≠ x))) h
  simp only [h1 P D hD, h1 P' D' hD'] at this
  exact List.reverse_inj.mp this
theorem qStr_inj {d d' : Int} {n n' : Nat} (h : n < 64) (h' : n' < 64) (e : qStr d n = qStr d' n') : n = n' := by
  have e1 := congrArg (fun z : Str => z.cps.toList) e
  unfold qStr at e1
  simp only [cps_app] at e1
  have ek : ("k" : Str).cps.toList = [107] := by decide +kernel
  rw [ek, List.append_assoc, List.append_assoc] at e1
  have no : ∀ {m : Nat}, m < 64 → ∀ c ∈ (Str.ofString (toString (m : Int))).cps.toList, c ≠ 107 := fun {m} hm c hc => by
    have := List.all_eq_true.mp (dig_ok hm).2 c hc
    unfold digB at this
    simp only [Bool.and_eq_true, decide_eq_true_eq] at this
    omega
  have e2 := tail_eq (no h) (no h') e1
  have := dig_inj ⟨n, h⟩ ⟨n', h'⟩ e2
  exact congrArg Fin.val this
def qCnt (c nets most : Int) : Int := dr c (5 * most + nets + 2) 0 % (nets + 1)
def qNm (c M : Int) (net : Nat) : Option Nm := if dr c M (2 + (net : Int)) % 3 = 0 then some ((net : Int), qStr (dr c M (2 + (net : Int)) / 3) net) else none
def qN (c M : Int) (i : Nat) : List Nm := (List.range i).filterMap (qNm c M)
theorem qN_yes {c M : Int} {i : Nat} (h : dr c M (2 + (i : Int)) % 3 = 0) : qN c M (i + 1) = qN c M i ++ [((i : Int), qStr (dr c M (2 + (i : Int)) / 3) i)] := by
  unfold qN
  rw [List.range_succ, List.filterMap_append]
  simp [qNm, h]
theorem qN_no {c M : Int} {i : Nat} (h : ¬ dr c M (2 + (i : Int)) % 3 = 0) : qN c M (i + 1) = qN c M i := by
  unfold qN
  rw [List.range_succ, List.filterMap_append]
  simp [qNm, h]
theorem qN_len (c M : Int) (i : Nat) : (qN c M i).length ≤ i := by
  refine Nat.le_trans (List.length_filterMap_le _ _) ?_
  rw [List.length_range]
  exact Nat.le_refl i
theorem qN_mem {c M : Int} {i : Nat} {q : Nm} (h : q ∈ qN c M i) : ∃ n : Nat, n < i ∧ q.1 = (n : Int) ∧ ∃ d, q.2 = qStr d n := by
  unfold qN at h
  obtain ⟨n, h1, h2⟩ := List.mem_filterMap.mp h
  unfold qNm at h2
  split at h2
  · cases h2; exact ⟨n, List.mem_range.mp h1, rfl, _, rfl⟩
  · cases h2
theorem qN_lt (c M : Int) : ∀ i : Nat, (qN c M i).Pairwise (fun p q => p.1 < q.1)
  | 0 => List.Pairwise.nil
  | i + 1 => by
    by_cases h : dr c M (2 + (i : Int)) % 3 = 0
    · rw [qN_yes h, List.pairwise_append]
      refine ⟨qN_lt c M i, List.pairwise_singleton _ _, fun a ha b hb => ?_⟩
      rw [List.mem_singleton] at hb
      subst hb
      obtain ⟨n, h1, h2, _⟩ := qN_mem ha
      rw [h2]
      show (n : Int) < (i : Int)
      omega
    · rw [qN_no h]; exact qN_lt c M i
def kindOf (r : Int) : Str := if r % 2 = 0 then "n" else "p"
def qD (c M nets cnt : Int) (k : Nat) : Dev :=
  ⟨kindOf (dr c M (nets + 2 + 5 * (k : Int) + 0)), dr c M (nets + 2 + 5 * (k : Int) + 1) % cnt, min (dr c M (nets + 2 + 5 * (k : Int) + 2) % cnt) (dr c M (nets + 2 + 5 * (k : Int) + 3) % cnt), max (dr c M (nets + 2 + 5 * (k : Int) + 2) % cnt) (dr c M (nets + 2 + 5 * (k : Int) + 3) % cnt), 1 + dr c M (nets + 2 + 5 * (k : Int) + 4) % 3, 1 + dr c M (nets + 2 + 5 * (k : Int) + 4) / 3 % 2⟩
def qV (c M nets cnt : Int) (i : Nat) : List Dev := (List.range i).map (qD c M nets cnt)
theorem qV_succ (c M nets cnt : Int) (i : Nat) : qV c M nets cnt (i + 1) = qV c M nets cnt i ++ [qD c M nets cnt i] := by
  unfold qV; rw [List.range_succ, List.map_append]; rfl
theorem qV_len (c M nets cnt : Int) (i : Nat) : (qV c M nets cnt i).length = i := by unfold qV; rw [List.length_map, List.length_range]
def qm (c nets most : Int) : Nat := if 0 < qCnt c nets most then (dr c (5 * most + nets + 2) 1 % (most + 1)).toNat else 0
theorem qm_le (c nets most : Int) (h : 0 ≤ most) : (qm c nets most : Int) ≤ most := by
  unfold qm
  split
  · have h1 := Int.emod_nonneg (dr c (5 * most + nets + 2) 1) (b := most + 1) (by omega)
    have h2 := Int.emod_lt_of_pos (dr c (5 * most + nets + 2) 1) (b := most + 1) (by omega)
    omega
  · simpa using h
theorem qm_pos {c nets most : Int} {k : Nat} (h : k < qm c nets most) : 0 < qCnt c nets most := by
  unfold qm at h
  split at h
  · assumption
  · omega
theorem qCnt_lo {c nets most : Int} (h : 0 ≤ nets) : 0 ≤ qCnt c nets most ∧ qCnt c nets most ≤ nets := by
  unfold qCnt
  have h1 := Int.emod_nonneg (dr c (5 * most + nets + 2) 0) (b := nets + 1) (by omega)
  have h2 := Int.emod_lt_of_pos (dr c (5 * most + nets + 2) 0) (b := nets + 1) (by omega)
  omega
def cN (c nets most : Int) : List Nm := qN c (5 * most + nets + 2) (qCnt c nets most).toNat
def cV (c nets most : Int) : List Dev := qV c (5 * most + nets + 2) nets (qCnt c nets most) (qm c nets most)
theorem qcir_ok {c nets most : Int} (h1 : 0 ≤ nets ∧ nets ≤ 60) (h2 : 0 ≤ most ∧ most ≤ 60) : CirOk (qCnt c nets most) (cN c nets most) (cV c nets most) := by
  have hc := qCnt_lo (c := c) (most := most) h1.1
  have hm := qm_le c nets most h2.1
  have lt := qN_lt c (5 * most + nets + 2) (qCnt c nets most).toNat
  refine ⟨by omega, fun q hq => ?_, ?_, ?_, ?_, ?_, fun v hv => ?_⟩
  · obtain ⟨n, hn, e, d, e2⟩ := qN_mem hq
    rw [e, e2]
    exact ⟨by omega, qStr_ok d (by omega)⟩
  · exact List.pairwise_map.mpr (lt.imp fun h e => by omega)
  · refine List.pairwise_map.mpr (List.Pairwise.imp_of_mem (fun {a b} ha hb h e => ?_) lt)
    obtain ⟨n, hn, e1, d, e2⟩ := qN_mem ha
    obtain ⟨n', hn', e1', d', e2'⟩ := qN_mem hb
    rw [e2, e2'] at e
    have := qStr_inj (by omega) (by omega) e
    omega
  · have := qN_len c (5 * most + nets + 2) (qCnt c nets most).toNat
    show (qN _ _ _).length ≤ 1000
    omega
  · show (qV _ _ _ _ _).length ≤ 200
    rw [qV_len]; omega
  · unfold cV qV at hv
    obtain ⟨k, hk, rfl⟩ := List.mem_map.mp hv
    have hp := qm_pos (List.mem_range.mp hk)
    have md : ∀ x : Int, 0 ≤ x % qCnt c nets most ∧ x % qCnt c nets most < qCnt c nets most := fun x => ⟨Int.emod_nonneg _ (by omega), Int.emod_lt_of_pos _ hp⟩
    have a1 := md (dr c (5 * most + nets + 2) (nets + 2 + 5 * (k : Int) + 1))
    have a2 := md (dr c (5 * most + nets + 2) (nets + 2 + 5 * (k : Int) + 2))
    have a3 := md (dr c (5 * most + nets + 2) (nets + 2 + 5 * (k : Int) + 3))
    refine ⟨?_, a1, ?_, ?_, ?_⟩
    · unfold qD kindOf
      simp only
      split
      · exact .inl rfl
      · exact .inr rfl
    · unfold qD
      simp only
      omega
    · unfold qD
      simp only
      omega
    · unfold qD
      simp only
      omega
theorem cut5 {c M lo : Int} (h0 : 0 ≤ lo) (h : lo + 5 ≤ M) : cutD ((draws c M).map D.int) (some lo) (some (lo + 5)) = [.int (dr c M (lo + 0)), .int (dr c M (lo + 1)), .int (dr c M (lo + 2)), .int (dr c M (lo + 3)), .int (dr c M (lo + 4))] := by
  have hl : ((draws c M).map D.int).length = M.toNat := by rw [List.length_map, draws_len]
  have e1 : HT.sIx ((draws c M).map D.int).length 0 (some lo) = lo.toNat := by
    rw [hl]
    show (if lo < 0 then _ else min lo.toNat M.toNat) = _
    rw [if_neg (by omega)]; omega
  have e2 : HT.sIx ((draws c M).map D.int).length ((draws c M).map D.int).length (some (lo + 5)) = lo.toNat + 5 := by
    rw [hl]
    show (if lo + 5 < 0 then _ else min (lo + 5).toNat M.toNat) = _
    rw [if_neg (by omega)]; omega
  unfold cutD
  rw [e1, e2, show lo.toNat + 5 - lo.toNat = 5 by omega]
  refine List.ext_getElem? fun i => ?_
  by_cases hi : i < 5
  · rw [List.getElem?_take_of_lt hi, List.getElem?_drop, List.getElem?_map]
    have : (draws c M)[lo.toNat + i]? = some (dr c M (lo + (i : Int))) := by
      have := dr_get (c := c) (n := M) (k := lo + (i : Int)) (by omega) (by omega)
      rw [show (lo + (i : Int)).toNat = lo.toNat + i by omega] at this
      exact this
    rw [this]
    match i, hi with
    | 0, _ => rfl
    | 1, _ => rfl
    | 2, _ => rfl
    | 3, _ => rfl
    | 4, _ => rfl
  · rw [List.getElem?_eq_none (by simp; omega), List.getElem?_eq_none (by simp; omega)]
theorem ix_kind (r : Int) : IX (.lst [.str "n", .str "p"]) (.int (r % 2)) (.str (kindOf r)) := by
  unfold kindOf
  have : r % 2 = 0 ∨ r % 2 = 1 := by omega
  rcases this with h | h
  · rw [h, if_pos rfl]; exact IX.l0
  · rw [h, if_neg (by decide)]; exact IX.l1
theorem nmOf_len (d : Int) : (nmOf d).length ≤ sizeLine := by
  have h := tls_len (d / 26 % 6).toNat
  unfold nmOf
  rw [len_app, sizeLine_eq]
  have : (⟨#[ltr.cps.toList.getD (d % 26).toNat 0]⟩ : Str).length = 1 := rfl
  omega
theorem pre_len (d : Int) : (nmPre d).length ≤ 4 := by
  have h1 := pre_ok d
  unfold preOk at h1
  simp only [Bool.and_eq_true, decide_eq_true_eq] at h1
  exact h1.1.2
theorem q1_len (d : Int) : (cutS (nmOf d) none (some 7)).length + (Str.ofString "k").length ≤ sizeLine := by
  have := pre_len d
  have lk : ("k" : Str).length = 1 := by decide +kernel
  show (nmPre d).length + ("k" : Str).length ≤ sizeLine
  rw [lk, sizeLine_eq]; omega
theorem q2_len (d : Int) {n : Nat} (h : n < 64) : (cutS (nmOf d) none (some 7) ++ Str.ofString "k").length + (Str.ofString (toString (n : Int))).length ≤ sizeLine := by
  have := pre_len d
  have h2 := dig_ok h
  have lk : ("k" : Str).length = 1 := by decide +kernel
  show (nmPre d ++ ("k" : Str)).length + _ ≤ sizeLine
  rw [len_app, lk, sizeLine_eq]; omega
theorem log_small {n m : Nat} (h : n < m) (hm : m ≤ 100) : ((n : Int)).natAbs.log2 < 1920 := by
  rw [Int.natAbs_natCast]
  by_cases h0 : n = 0
  · subst h0; decide
  · rw [Nat.log2_lt h0]
    have : n < 2 ^ 7 := by omega
    exact Nat.lt_of_lt_of_le this (Nat.pow_le_pow_right (by decide) (show 7 ≤ 1920 by omega))
theorem qm_mul {c nets most : Int} (h : 0 ≤ most) : dr c (5 * most + nets + 2) 1 % (most + 1) * (if decide (0 < dr c (5 * most + nets + 2) 0 % (nets + 1)) = true then 1 else 0) = ((qm c nets most : Nat) : Int) := by
  unfold qm
  have h1 := Int.emod_nonneg (dr c (5 * most + nets + 2) 1) (b := most + 1) (by omega)
  by_cases hp : 0 < dr c (5 * most + nets + 2) 0 % (nets + 1)
  · rw [if_pos (decide_eq_true hp), if_pos (show 0 < qCnt c nets most from hp), Int.mul_one, Int.toNat_of_nonneg h1]
  · rw [if_neg (by simpa using hp), if_neg (show ¬ 0 < qCnt c nets most from hp), Int.mul_zero]; rfl
end DL
namespace DL
open PySem PySem.Spec PyProof.Rows L2
theorem nodup_map_on {α β : Type} {f : α → β} : ∀ {l : List α}, (∀ a ∈ l, ∀ b ∈ l, f a = f b → a = b) → l.Nodup → (l.map f).Nodup
  | [], _, _ => List.nodup_nil
  | x :: l, h, nd => by
    rw [List.map_cons, List.nodup_cons]
    rw [List.nodup_cons] at nd
    refine ⟨fun hm => ?_, nodup_map_on (fun a ha b hb => h a (by simp [ha]) b (by simp [hb])) nd.2⟩
    obtain ⟨y, hy, e⟩ := List.mem_map.mp hm
    exact nd.1 (h y (by simp [hy]) x (by simp) e ▸ hy)
theorem CirOk.perm {n : Int} {N M : List Nm} {V : List Dev} (ok : CirOk n N V) (p : M.Perm N) : CirOk n M V :=
  ⟨ok.nn, fun q hq => ok.nm q (p.mem_iff.mp hq), (p.map _).nodup_iff.mpr ok.d1, (p.map _).nodup_iff.mpr ok.d2, by rw [p.length_eq]; exact ok.nl, ok.vl, ok.dv⟩
theorem CirOk.filter {n : Int} {N : List Nm} {V : List Dev} (ok : CirOk n N V) (p : Nm → Bool) : CirOk n (N.filter p) V :=
  ⟨ok.nn, fun q hq => ok.nm q (List.mem_filter.mp hq).1, ok.d1.sublist (List.Sublist.map _ List.filter_sublist), ok.d2.sublist (List.Sublist.map _ List.filter_sublist), Nat.le_trans (List.length_filter_le _ _) ok.nl, ok.vl, ok.dv⟩
end DL
namespace DL
open PySem PySem.Spec PyProof.Rows L2
noncomputable def cirEq (n : Int) (N : List Nm) (V : List Dev) (m : Int) (M : List Nm) (W : List Dev) : Bool := decide (n = m) && (decide (srtN N = srtN M) && decide (V = W))
theorem str_small {x : Str} (h : x.cps.toList.all chB = true) : smallStr x := by
  show PyData.strOk x = true
  unfold PyData.strOk
  rw [Array.all_eq_true]
  intro i hi
  have := List.all_eq_true.mp h x.cps[i] (Array.mem_def.mp (Array.getElem_mem hi))
  unfold chB loB at this
  simp only [Bool.or_eq_true, Bool.and_eq_true, decide_eq_true_eq] at this ⊢
  omega
theorem name_small {x : Str} (h : nameB x = true) : smallStr x := by
  unfold nameB at h
  simp only [Bool.and_eq_true] at h
  exact str_small h.2.2
theorem nm_cm {N : List Nm} (h : ∀ q ∈ N, nameB q.2 = true) : Cm 2 (.tup (N.map nmE)) := .tup fun d hd => by
  obtain ⟨q, hq, rfl⟩ := List.mem_map.mp hd
  exact .tup (Cm.all_cons .int (Cm.all_cons (.str (name_small (h q hq))) Cm.all_nil))
theorem dev_cmd {n : Int} {v : Dev} (h : DevOk n v) : Cm 1 v.e := by
  refine .tup (Cm.all_cons (.str ?_) (Cm.all_cons .int (Cm.all_cons .int (Cm.all_cons .int (Cm.all_cons .int (Cm.all_cons .int Cm.all_nil))))))
  rcases h.k with e | e <;> rw [e] <;> exact str_small (by decide +kernel)
theorem dev_cm {n : Int} {V : List Dev} (h : ∀ v ∈ V, DevOk n v) : Cm 2 (.tup (V.map Dev.e)) := .tup fun d hd => by
  obtain ⟨v, hv, rfl⟩ := List.mem_map.mp hd
  exact dev_cmd (h v hv)
theorem nmE_inj {p q : Nm} (h : nmE p = nmE q) : p = q := by
  obtain ⟨a, b⟩ := p
  obtain ⟨c, d⟩ := q
  simp only [nmE, D.tup.injEq, List.cons.injEq, D.int.injEq, D.str.injEq, and_true] at h
  rw [h.1, h.2]
theorem devE_inj {p q : Dev} (h : p.e = q.e) : p = q := by
  obtain ⟨a, b, c, d, e, f⟩ := p
  obtain ⟨a', b', c', d', e', f'⟩ := q
  simp only [Dev.e, D.tup.injEq, List.cons.injEq, D.int.injEq, D.str.injEq, and_true] at h
  obtain ⟨h1, h2, h3, h4, h5, h6⟩ := h
  rw [h1, h2, h3, h4, h5, h6]
theorem map_inj_of {α : Type} {f : α → D} (hf : ∀ a b, f a = f b → a = b) {l m : List α} : l.map f = m.map f ↔ l = m :=
  List.map_inj_right (f := f) hf
theorem c2_eqNm {X : Cx} {N M : List Nm} {k : Bool} (hu : X.A.units + 64 < cLine) (h : ∀ q ∈ N, nameB q.2 = true) (h' : ∀ q ∈ M, nameB q.2 = true) (hk : k = true ↔ N = M) : C2 X .Eq (.tup (N.map nmE)) (.tup (M.map nmE)) (.bl k) :=
  c2_eqC hu (nm_cm h) (nm_cm h') (by rw [D.tup.injEq, map_inj_of (fun a b => nmE_inj)]; exact hk)
theorem c2_eqDev {X : Cx} {n m : Int} {V W : List Dev} {k : Bool} (hu : X.A.units + 64 < cLine) (h : ∀ v ∈ V, DevOk n v) (h' : ∀ v ∈ W, DevOk m v) (hk : k = true ↔ V = W) : C2 X .Eq (.tup (V.map Dev.e)) (.tup (W.map Dev.e)) (.bl k) :=
  c2_eqC hu (dev_cm h) (dev_cm h') (by rw [D.tup.injEq, map_inj_of (fun a b => devE_inj)]; exact hk)
theorem srt_names {n : Int} {N : List Nm} {V : List Dev} (ok : CirOk n N V) : ∀ q ∈ srtN N, nameB q.2 = true := fun q hq => (ok.nm q ((srtN_perm N).mem_iff.mp hq)).2
theorem DevOk.up {n m : Int} {v : Dev} (h : DevOk n v) (hm : n ≤ m) : DevOk m v := ⟨h.k, ⟨h.g.1, by have := h.g.2; omega⟩, ⟨h.e.1, h.e.2.1, by have := h.e.2.2; omega⟩, h.w, h.l⟩
theorem CirOk.up {n : Int} {N : List Nm} {V : List Dev} (ok : CirOk n N V) (h : n ≤ 100) : CirOk (n + 1) N V :=
  ⟨by have := ok.nn; omega, fun q hq => ⟨by have := (ok.nm q hq).1; omega, (ok.nm q hq).2⟩, ok.d1, ok.d2, ok.nl, ok.vl, fun v hv => (ok.dv v hv).up (by omega)⟩
theorem CirOk.more {n : Int} {N : List Nm} {V : List Dev} {z : Str} (ok : CirOk n N V) (h : n ≤ 100) (hl : N.length ≤ 100) (hz : nameB z = true) (hn : ∀ q ∈ N, q.2 ≠ z) : CirOk (n + 1) (N ++ [(n, z)]) V := by
  have up := ok.up h
  refine ⟨up.nn, fun q hq => ?_, ?_, ?_, by rw [List.length_append]; simp only [List.length_cons, List.length_nil]; omega, ok.vl, up.dv⟩
  · rcases List.mem_append.mp hq with hq | hq
    · exact up.nm q hq
    · rw [List.mem_singleton] at hq; subst hq
      exact ⟨by have := ok.nn; simp only; omega, hz⟩
  · rw [List.map_append, List.nodup_append]
    refine ⟨ok.d1, by simp, fun a ha b hb e => ?_⟩
    obtain ⟨q, hq, rfl⟩ := List.mem_map.mp ha
    simp only [List.map_cons, List.map_nil, List.mem_singleton] at hb
    have := (ok.nm q hq).1
    omega
  · rw [List.map_append, List.nodup_append]
    refine ⟨ok.d2, by simp, fun a ha b hb e => ?_⟩
    obtain ⟨q, hq, rfl⟩ := List.mem_map.mp ha
    simp only [List.map_cons, List.map_nil, List.mem_singleton] at hb
    exact hn q hq (e.trans hb)
theorem CirOk.devs {n : Int} {N : List Nm} {V W : List Dev} (ok : CirOk n N V) (h : W.length ≤ 200) (hd : ∀ v ∈ W, DevOk n v) : CirOk n N W := ⟨ok.nn, ok.nm, ok.d1, ok.d2, ok.nl, h, hd⟩
theorem CirOk.names {n : Int} {N M : List Nm} {V : List Dev} (ok : CirOk n N V) (h : M.Sublist N) : CirOk n M V :=
  ⟨ok.nn, fun q hq => ok.nm q (h.subset hq), (h.map _).nodup ok.d1, (h.map _).nodup ok.d2, Nat.le_trans h.length_le ok.nl, ok.vl, ok.dv⟩
def zz : Str := "zz9z"
theorem zz_ok : nameB zz = true := by decide +kernel
theorem cV_len {c nets most : Int} (h : 0 ≤ most) : ((cV c nets most).length : Int) ≤ most := by
  have h1 := qm_le c nets most h
  show ((qV _ _ _ _ _).length : Int) ≤ _
  rw [qV_len]; exact h1
def wid (v : Dev) : Dev := ⟨v.k, v.g, v.a, v.b, v.w + 1, v.l⟩
theorem wid_ok {n : Int} {v : Dev} (h : DevOk n v) : DevOk n (wid v) := ⟨h.k, h.g, h.e, by have := h.w; show 1 ≤ v.w + 1; omega, h.l⟩
/-- all the law needs of a drawn circuit -/
structure Drn (n : Int) (N : List Nm) (V : List Dev) : Prop where
  ok : CirOk n N V
  n : n ≤ 14
  nl : N.length ≤ 14
  vl : V.length ≤ 12
  z : ∀ q ∈ N, q.2 ≠ zz
section
variable {n : Int} {N : List Nm} {V V0 : List Dev} {v : Dev}
theorem Drn.a (h : Drn n N V) : CirOk (n + 1) N V := h.ok.up (by have := h.n; omega)
theorem Drn.b (h : Drn n N V) : CirOk (n + 1) (N ++ [(n, zz)]) V := h.ok.more (by have := h.n; omega) (by have := h.nl; omega) zz_ok h.z
theorem Drn.c (h : Drn n N V) (e : V = V0 ++ [v]) : CirOk n N V0 := h.ok.devs (by have := h.vl; rw [e, List.length_append] at this; omega) fun w hw => h.ok.dv w (by rw [e]; simp [hw])
theorem Drn.d (h : Drn n N V) (e : V = V0 ++ [v]) : CirOk n N (V ++ [v]) := h.ok.devs (by have := h.vl; rw [List.length_append]; simp only [List.length_cons, List.length_nil]; omega) fun w hw => by
  rcases List.mem_append.mp hw with hw | hw
  · exact h.ok.dv w hw
  · rw [List.mem_singleton] at hw; subst hw; exact h.ok.dv w (by rw [e]; simp)
theorem Drn.e (h : Drn n N V) (e : V = V0 ++ [v]) : CirOk n N (V0 ++ [wid v]) := h.ok.devs (by have := h.vl; rw [e] at this; rw [List.length_append] at this ⊢; exact Nat.le_trans this (by omega)) fun w hw => by
  rcases List.mem_append.mp hw with hw | hw
  · exact h.ok.dv w (by rw [e]; simp [hw])
  · rw [List.mem_singleton] at hw; subst hw; exact wid_ok (h.ok.dv v (by rw [e]; simp))
theorem Drn.g (h : Drn n N V) : CirOk n (N.drop 1) V := h.ok.names (List.drop_sublist 1 N)
theorem Drn.r (h : Drn n N V) : CirOk n N.reverse V := h.ok.perm N.reverse_perm
end
end DL
namespace DL
open PySem PySem.Spec PyProof.Rows L2
section
variable {X : Cx} {ρ : En} {pos : Pos}
open PySem.AutoSeq1 (wpAny_loadPart')
def catS (zs : List Str) : Str := zs.foldl (· ++ ·) Str.empty
def sumL (zs : List Str) : Nat := (zs.map (·.length)).sum
/-- the parts of an f-string -/
def FSd (X : Cx) (ρ : En) (es : List Expr) (zs : List Str) : Prop := ∀ B0 B σ H0 H (acc : Str) (Q : Str → Hp → Prop), J X.K B0 B σ H0 H ρ → acc.length + sumL zs ≤ sizeLine → (∀ H0' H', JH H0 H H0' H' → Q (zs.foldl (· ++ ·) acc) H') → tJs (es.map (RE X)) acc σ H Q
theorem pj_star : ∀ es : List Expr, PJ X es (es.map (RE X))
  | [] => .nil
  | _ :: es => .cons pe_star (pj_star es)
theorem app_len (a b : Str) : (a ++ b).length = a.length + b.length := Array.size_append
variable {e o : Expr} {es : List Expr} {zs : List Str} {z : Str}
theorem fs_nil : FSd X ρ [] [] := fun B0 B σ H0 H acc Q j hl k => k H0 H (JH.refl j.same)
theorem fm_s {p : Pos} (h : ED X ρ e (.str z)) (hl : z.length ≤ sizeLine) : ED X ρ (.FormattedValue e (-1) none p) (.str z) := fun B0 B σ H0 H Q j k => RE.of (pe_fmt pe_star) (h B0 B σ H0 H _ j fun v G0 G g r => by
  cases (show v = .str z from r)
  exact .inl ⟨z, rfl, hl, k _ G0 G g rfl⟩)
theorem fm_i {p : Pos} {i : Int} (h : ED X ρ e (.int i)) (hl : i.natAbs.log2 < 1920) : ED X ρ (.FormattedValue e (-1) none p) (.str (Str.ofString (toString i))) := fun B0 B σ H0 H Q j k => RE.of (pe_fmt pe_star) (h B0 B σ H0 H _ j fun v G0 G g r => by
  cases (show v = .int i from r)
  exact .inr ⟨i, rfl, hl, k _ G0 G g rfl⟩)
theorem sumL_cons (z : Str) (zs : List Str) : sumL (z :: zs) = z.length + sumL zs := by simp [sumL]
theorem fs_cons (h : ED X ρ e (.str z)) (r : FSd X ρ es zs) : FSd X ρ (e :: es) (z :: zs) := fun B0 B σ H0 H acc Q j hl k => by
  rw [sumL_cons] at hl
  refine h B0 B σ H0 H _ j fun v G0 G g rv => ?_
  cases (show v = .str z from rv)
  refine ⟨z, rfl, by rw [app_len]; omega, ?_⟩
  exact r B0 B σ G0 G (acc ++ z) Q (j.grow g) (by rw [app_len]; omega) fun L0 L g2 => k L0 L (g.trans g2)
theorem ed_fs {e2 : Expr} (h : FSd X ρ (e :: e2 :: es) zs) (hl : sumL zs ≤ sizeLine) : ED X ρ (.JoinedStr (e :: e2 :: es) pos) (.str (catS zs)) := fun B0 B σ H0 H Q j k =>
  RE.of (pe_joined (pj_star _)) (h B0 B σ H0 H Str.empty (fun out H1 => Q (.str out) H1) j (by show 0 + _ ≤ _; omega) fun G0 G g => k _ G0 G g rfl)
/-- o.join(e) -/
theorem ed_join {a : Str} {ds : D} {apos : Pos} (ho : ED X ρ o (.str a)) (hs : SeqD ds (zs.map .str)) (he : ED X ρ e ds) (hl : sumL zs + zs.length * a.length ≤ 16777216) (h1 : starEach [e] X.env = [(false, eval e X.env)] := by rfl) (hbase : attributeBase o "join" X.env (eval o X.env) = eval o X.env := by rfl) (hline : (apos.endLine == pos.line) = true := by rfl) :
    ED X ρ (.Call (.Attribute o "join" apos) [e] [] pos) (.str (Str.join a zs)) := fun B0 B σ H0 H Q j k => by
  refine RE.of (pe_join pe_star pe_star h1 hbase hline) (ho B0 B σ H0 H _ j fun v G0 G g r => ?_)
  cases (show v = .str a from r)
  refine ⟨⟨a, rfl⟩, he B0 B σ G0 G _ (j.grow g) fun y L0 L g2 r2 => ?_⟩
  have fin : Q (.str (Txt.join a zs)) L := by
    rw [TL.join_eq]
    exact k _ L0 L (g.trans g2) rfl
  cases hs with
  | lst =>
    obtain ⟨p, vs, rfl, h2, h3⟩ := r2
    rw [DRs.strs h3] at h2
    exact ⟨a, p, zs, rfl, rfl, .inl (g2.sh.seq h2), hl, fin⟩
  | tup =>
    obtain ⟨p, vs, rfl, h2, h3⟩ := r2
    rw [DRs.strs h3] at h2
    exact ⟨a, p, zs, rfl, rfl, .inr (Same.seqT g2.sh h2), hl, fin⟩
end
end DL
namespace DL
open PySem PySem.Spec PyProof.Rows L2
section
variable {X : Cx} {ρ : En} {pos : Pos} {e : Expr}
theorem c2_notInStr {x : Str} {ys : List Str} {d : D} (hd : SeqD d (ys.map D.str)) : C2 X .NotIn (.str x) d (.bl (!decide (x ∈ ys))) := ⟨_, op_notIn_seq, fun H0 H u v Q s r1 r2 k => by
  cases (show u = .str x from r1)
  have hf : (ys.map V.str).all flatV = true := by simp [flatV]
  have hi : inV (.str x) (ys.map V.str) = decide (x ∈ ys) := by
    unfold inV
    rw [Bool.eq_iff_iff]
    simp only [List.any_eq_true, List.mem_map, decide_eq_true_eq]
    constructor
    · rintro ⟨v, ⟨y, hy, rfl⟩, h⟩
      have : y = x := by simpa [eqV] using h
      exact this ▸ hy
    · intro h
      exact ⟨.str x, ⟨x, h, rfl⟩, by simp [eqV]⟩
  have fin : Q (.bl (if true = true then !inV (.str x) (ys.map V.str) else inV (.str x) (ys.map V.str))) H := by
    rw [hi]; exact k _ H0 H (JH.refl s) rfl
  cases hd with
  | lst =>
    obtain ⟨a, vs, rfl, h1, h2⟩ := r2
    rw [DRs.strs h2] at h1
    exact ⟨a, _, rfl, .inl (s.seq h1), rfl, hf, fin⟩
  | tup =>
    obtain ⟨a, vs, rfl, h1, h2⟩ := r2
    rw [DRs.strs h2] at h1
    exact ⟨a, _, rfl, .inr (Same.seqT s h1), rfl, hf, fin⟩⟩
/-- what a slot owns is shown while e is asked, which gives what stands nowhere -/
theorem ed_showO (i : Nat) {c : OC} {d : D} (hi : ρ[i]? = some (.ow c)) (h : ED X (ρ.set i (.sh c.d)) e d) (hf : fltD d = true := by rfl) : ED X ρ e d := fun B0 B σ H0 H Q j kk => by
  obtain ⟨a, j'⟩ := j.tell hi
  have hl : i < ρ.length := (List.getElem?_eq_some_iff.mp hi).1
  refine ed_show (ρ := ρ.set i (.ox [(a, c)] (.ad a))) i c.d (by rw [List.getElem?_set_self hl]) (fun K H v h1 h2 => ?_) (by rw [List.set_set]; exact h) hf B0 B σ H0 H Q j' kk
  cases (show v = .ref a from h2)
  exact h1 (a, c) (List.mem_singleton_self _)
theorem td_showO (i : Nat) {c : OC} {k : Bool} (hi : ρ[i]? = some (.ow c)) (h : TD X (ρ.set i (.sh c.d)) e k) : TD X ρ e k := fun B0 B σ H0 H Q j kk => by
  obtain ⟨a, j'⟩ := j.tell hi
  have hl : i < ρ.length := (List.getElem?_eq_some_iff.mp hi).1
  refine td_show (ρ := ρ.set i (.ox [(a, c)] (.ad a))) i c.d (by rw [List.getElem?_set_self hl]) (fun K H v h1 h2 => ?_) (by rw [List.set_set]; exact h) B0 B σ H0 H Q j' kk
  cases (show v = .ref a from h2)
  exact h1 (a, c) (List.mem_singleton_self _)
end
end DL
namespace DL
open PySem PySem.Spec PyProof.Rows L2
theorem cutDrop (l : List D) {k : Int} (h : 0 ≤ k) : cutD l (some k) none = l.drop k.toNat := by
  unfold cutD
  show (l.drop (HT.sIx l.length 0 (some k))).take (l.length - HT.sIx l.length 0 (some k)) = _
  have e : HT.sIx l.length 0 (some k) = min k.toNat l.length := by
    unfold HT.sIx; simp only; split <;> omega
  rw [e, List.take_of_length_le (by rw [List.length_drop]; exact Nat.le_refl _)]
  by_cases hk : k.toNat ≤ l.length
  · rw [Nat.min_eq_left hk]
  · rw [Nat.min_eq_right (by omega), List.drop_eq_nil_of_le (Nat.le_refl _), List.drop_eq_nil_of_le (by omega)]
end DL
namespace DL
open PySem PySem.Spec PyProof.Rows L2
section
variable {X : Cx} {ρ : En} {e : Expr} {pos : Pos} {d : D} {cn : Str} {fs ns : List Str} {ds : List D} {f : Str} {Φ : Out → Prop} {rest : List Stmt}
/-- (.., *e), e a list -/
theorem ad_starL {es : List Expr} {ds zs : List D} {p : Pos} (h : ED X ρ e (.lst zs)) (r : AD X ρ es ds) (hs : starEach (.Starred e p :: es) X.env = (true, eval e X.env) :: starEach es X.env := by rfl) : AD X ρ (.Starred e p :: es) (zs ++ ds) := fun B0 B σ H0 H Q j k =>
  RA.of (StX.pa_star pe_star DL.pa_star hs) (h B0 B σ H0 H _ j fun v G0 G g1 r1 => by
    obtain ⟨a, vs, rfl, h1, h2⟩ := r1
    exact ⟨a, vs, rfl, .inr (g1.sh.seq h1), r B0 B σ G0 G _ (j.grow g1) fun ws L0 L g2 r2 => k (vs ++ ws) L0 L (g1.trans g2) (DRs.app (DRs.mono g2.s0 _ _ h2) r2)⟩)
end
theorem vals_snd {κ : Type} : ∀ {kvs : List (κ × V)} {xs : List (κ × Value)}, KV kvs xs → Vals (kvs.map (·.2)) (xs.map (·.2))
  | _, _, .nil => .nil
  | _, _, .cons h t => .cons h.2 (vals_snd t)
theorem items_snd {κ : Type} {xs : List (κ × Value)} {acc : Array Value} (h : ItemsOf (fun i v => ∃ k, xs[i]? = some (k, v)) acc xs.length) : acc.toList = xs.map (·.2) := by
  refine List.ext_getElem? fun i => ?_
  rw [List.getElem?_map]
  by_cases hi : i < xs.length
  · have ha : i < acc.toList.length := by rw [Array.length_toList]; have := h.1; omega
    have e : acc[i]? = some acc.toList[i] := by rw [← Array.getElem?_toList, List.getElem?_eq_getElem ha]
    obtain ⟨k, hk⟩ := h.2 i _ e
    rw [hk, List.getElem?_eq_getElem ha]; rfl
  · rw [List.getElem?_eq_none (by rw [Array.length_toList]; have := h.1; omega), List.getElem?_eq_none (by omega)]; rfl
section
variable {X : Cx} {ρ : En} {o : Expr} {p q1 pos cpos apos : Pos} {to : TE}
theorem pe_listVals (hc : X.calm = true) (hg : Gl X "list") (hm : X.mg "list" = none) (ho : PE X o to) (hbase : attributeBase o "values" X.env (eval o X.env) = eval o X.env := by rfl) (hline : (apos.endLine == cpos.line) = true := by rfl)
    (hs : starEach [.Call (.Attribute o "values" apos) [] [] cpos] X.env = [(false, eval (.Call (.Attribute o "values" apos) [] [] cpos) X.env)] := by rfl) :
    PE X (.Call (.Name "list" p) [.Call (.Attribute o "values" apos) [] [] cpos] [] pos) (fun σ H Q => to σ H fun x H1 => ∃ a kvs, x = V.ref a ∧ Rd H1 a (.dK kvs) ∧ ∀ r, H1 r = none → Q (.ref r) (upd H1 r (.lst (kvs.map (·.2))))) := by
  refine ⟨fun pins s σ H Q I h => ?_⟩
  refine Call_ (ld_blt I hg hm bb_list (PyProof.Rows.callWith_type1 (args_cons ?_) hs rfl))
  refine wpAny_Call_method (T := "dict") (id := "dict.values") hbase rfl hline F.plainAttrs_dict F.slot_dict_values F.type_dict_values (thn (ho.run pins s σ H _ I h) fun u s1 ⟨x, H1, I1, rx, a, kvs, ex, hd, qq⟩ => ?_)
  subst ex
  obtain rfl : u = Value.ref a := rx
  obtain ⟨z, lo, xs, rel, dd⟩ := dk_rd I1.hok hd
  have hl : xs.length ≤ sizeLine := by rw [← rel.length]; exact z
  obtain ⟨ob, es, ep, hob, hex, hdat, q5⟩ := id dd
  refine ⟨dd.typeIs, dd.mapOf.noDict, ?_⟩
  have I2 : Inv X pins σ H1 { s1 with heap := s1.heap.push { cls := .type "dict_values", data := .fields #[.ref a] } } := I1.kept (t' := s1.toks) fun b ob q => Heap.get?_push_of_some _ q
  show wpAny _ _ (callWith cpos (.builtin "dict.values") [.ref a] [] []) _ X.xe s1
  refine method_meetsIn F.slot_dict_values F.entry_dict_values rfl (PySem.evalArgs_none ⟨rfl, dd.typeIs, F.args_dict_values_1 _, _, meets_dict_values (mixKind X.prog X.w) a lo, ⟨xs, dd⟩, ?_⟩)
  refine args_nil ?_
  have at0 : Heap.DictAt (mixKind X.prog X.w) s1.heap a xs ep := ⟨ob, es, hob, hex, hdat, q5⟩
  refine PySem.W.kdl_call (PySem.W.kdl_values (knd := mixKind X.prog X.w) (kvs := xs) (ep := ep)) (I2.ok.hd hc) ⟨⟨_, Heap.get?_push_size _ rfl, rfl, rfl⟩, at0.push _⟩ hl fun h' tk acc c' hk hS hacc => ?_
  have hv : Vals (kvs.map (·.2)) acc.toList := by
    rw [items_snd hacc]; exact vals_snd rel
  exact ⟨.ref _, _, I2.laid (t' := tk) hk (Nat.le_refl _) (show ObjOk X.prog X.w _ h' _ (.lst (kvs.map (·.2))) from ⟨by rw [List.length_map]; exact z, acc.toList, c', hv, by simpa using hS⟩), rfl, qq _ (I2.hok.fresh (Nat.le_refl _))⟩
end
end DL
namespace DL
open PySem PySem.Spec PyProof.Rows L2
/-- alike but for a dict at a, that is locked in one -/
structure FzK (a : Addr) (t : List (Key × V)) (H H' : Hp) : Prop where
  at1 : Rd H a (.dK t)
  at2 : Rd H' a (.dK t)
  ne : ∀ b, b ≠ a → H' b = H b
theorem FzK.rd {a : Addr} {t : List (Key × V)} {H H' : Hp} (f : FzK a t H H') {b : Addr} {u : HO} (hu : ∀ o x, u ≠ .frz o x) (h : Rd H b u) : Rd H' b u := by
  by_cases e : b = a
  · subst e
    rw [Rd.uniq h f.at1 hu (fun _ _ z => by cases z)]
    exact f.at2
  · rcases h with h | ⟨o, h⟩
    · exact .inl (by rw [f.ne b e]; exact h)
    · exact .inr ⟨o, by rw [f.ne b e]; exact h⟩
mutual
theorem FzK.dr {K : PySem.W.Frag} {a : Addr} {t : List (Key × V)} {H H' : Hp} (f : FzK a t H H') : ∀ (d : D) (v : V), DR K H d v → DR K H' d v
  | .non, v, h => h
  | .bl _, v, h => h
  | .int _, v, h => h
  | .str _, v, h => h
  | .ty _, v, h => h
  | .lst ds, v, h => by
    obtain ⟨b, vs, h1, h2, h3⟩ := h
    refine ⟨b, vs, h1, ?_, FzK.drs f ds vs h3⟩
    rcases h2 with h2 | h2
    · exact .inl (f.rd (fun _ _ z => by cases z) h2)
    · exact .inr h2
  | .tup ds, v, h => by
    obtain ⟨b, vs, h1, h2, h3⟩ := h
    refine ⟨b, vs, h1, ?_, FzK.drs f ds vs h3⟩
    rcases h2 with h2 | h2
    · exact .inl (f.rd (fun _ _ z => by cases z) h2)
    · exact .inr h2
  | .dk ks ds, v, h => by
    obtain ⟨b, vs, h1, h2, h4, h3⟩ := h
    exact ⟨b, vs, h1, f.rd (fun _ _ z => by cases z) h2, h4, FzK.drs f ds vs h3⟩
  | .dt ks ds, v, h => by
    obtain ⟨b, vs, h1, h2, h4, h3⟩ := h
    exact ⟨b, vs, h1, f.rd (fun _ _ z => by cases z) h2, h4, FzK.drs f ds vs h3⟩
  | .obj cn ns ds, v, h => by
    obtain ⟨b, C, dx, vs, h1, hn, h2, h4, h3⟩ := h
    refine ⟨b, C, dx, vs, h1, hn, ?_, h4, FzK.drs f ds vs h3⟩
    have e : b ≠ a := fun z => by
      subst z
      rcases f.at1 with q | ⟨o, q⟩ <;> rw [q] at h2 <;> cases h2
    rw [f.ne b e]; exact h2
  | .ad _, v, h => h
  | .exc _ x ns ds, v, h => by
    obtain ⟨h1, vs, h2, h4, h3⟩ := h
    refine ⟨h1, vs, ?_, h4, FzK.drs f ds vs h3⟩
    have e : x ≠ a := fun z => by
      subst z
      rcases f.at1 with q | ⟨od, q⟩ <;> rw [q] at h2 <;> cases h2
    rw [f.ne x e]; exact h2
  | .etp ds, v, h => by
    obtain ⟨b, vs, h1, h2, h3⟩ := h
    exact ⟨b, vs, h1, by
      have e : b ≠ a := fun z => by
        subst z
        rcases f.at1 with q | ⟨od, q⟩ <;> rw [q] at h2 <;> cases h2
      rw [f.ne b e]; exact h2, FzK.drs f ds vs h3⟩
  | .ptp ds, v, h => by
    obtain ⟨b, o, vs, h1, h2, h4, h3⟩ := h
    exact ⟨b, o, vs, h1, by
      have e : b ≠ a := fun z => by
        subst z
        rcases f.at1 with q | ⟨od, q⟩ <;> rw [q] at h2 <;> cases h2
      rw [f.ne b e]; exact h2, h4, FzK.drs f ds vs h3⟩
theorem FzK.drs {K : PySem.W.Frag} {a : Addr} {t : List (Key × V)} {H H' : Hp} (f : FzK a t H H') : ∀ (ds : List D) (vs : List V), DRs K H ds vs → DRs K H' ds vs
  | [], vs, h => h
  | d :: ds, vs, h => by
    obtain ⟨v, r, h1, h2, h3⟩ := h
    exact ⟨v, r, h1, FzK.dr f d v h2, FzK.drs f ds r h3⟩
end
theorem FzK.oc {K : PySem.W.Frag} {a : Addr} {t : List (Key × V)} {H H' : Hp} (f : FzK a t H H') : ∀ {c : OC} {o : HO}, OCR K H c o → OCR K H' c o
  | .lst _, _, ⟨vs, h1, h2⟩ => ⟨vs, h1, f.drs _ _ h2⟩
  | .dk _ _, _, ⟨vs, h1, h3, h2⟩ => ⟨vs, h1, h3, f.drs _ _ h2⟩
  | .dt _ _, _, ⟨vs, h1, h3, h2⟩ => ⟨vs, h1, h3, f.drs _ _ h2⟩
  | .fk _ _, _, ⟨vs, od, h1, h3, h2⟩ => ⟨vs, od, h1, h3, f.drs _ _ h2⟩
  | .ft _ _, _, ⟨vs, od, h1, h3, h2⟩ => ⟨vs, od, h1, h3, f.drs _ _ h2⟩
  | .ins _ _ _, _, ⟨vs, C, dx, h1, hn, h3, h2⟩ => ⟨vs, C, dx, h1, hn, h3, f.drs _ _ h2⟩
theorem fz_lockK {a : Addr} {t : List (Key × V)} {H : Hp} {od : Obj} (h : H a = some (.dK t)) : FzK a t H (upd H a (.frz od (.dK t))) := ⟨.inl h, .inr ⟨od, upd_same⟩, fun b hb => upd_ne hb⟩
theorem fz_unlockK {a : Addr} {t : List (Key × V)} {H : Hp} {od : Obj} (h : H a = some (.frz od (.dK t))) : FzK a t H (upd H a (.dK t)) := ⟨.inr ⟨od, h⟩, .inl upd_same, fun b hb => upd_ne hb⟩
section
variable {K : PySem.W.Frag} {B0 B H0 H : Hp} {σ σ1 : L2.St} {ρ ρ1 : En} {a : Addr} {t : List (Key × V)} {od : Obj}
theorem J.lockK (j : J K B0 B σ H0 H ρ) (h0 : H0 a = some (.dK t)) : J K (upd H0 a (.frz od (.dK t))) (baseF B H0 a (.frz od (.dK t))) σ (upd H0 a (.frz od (.dK t))) (upd H a (.frz od (.dK t))) ρ := by
  have f := fz_lockK (od := od) h0
  have ha : ∀ {c : OC} {p : Addr} {o : HO}, H0 p = none → p ≠ a := fun {c p o} e z => by subst z; rw [h0] at e; cases e
  have hb : ∀ p, H0 p = none → B p = none → baseF B H0 a (.frz od (.dK t)) p = none := fun p e1 e2 => by
    unfold baseF
    rw [if_neg (fun z => by subst z; rw [h0] at e1; cases e1), e2]; exact e1
  have hne : ∀ p, H0 p = none → p ≠ a := fun p e z => by subst z; rw [h0] at e; cases e
  refine ⟨⟨fun _ _ e => e, same_lock j.same, fun b u e => ?_, fun b u e _ e0 => e0⟩, j.len, fun i s ov e1 e2 => ?_, j.dis⟩
  · unfold baseF at e
    by_cases hb : b = a
    · rw [if_pos hb] at e; subst hb; rw [upd_same]; exact e
    · rw [if_neg hb] at e
      rw [upd_ne hb]
      cases q : B b with
      | some x => rw [q] at e; cases e; exact j.hp.sB b _ q
      | none => rw [q] at e; exact j.same b u e
  · have q := j.sl i s ov e1 e2
    cases s with
    | no => trivial
    | sh d => obtain ⟨v, h1, h2⟩ := q; exact ⟨v, h1, f.dr _ _ h2⟩
    | ow c =>
      obtain ⟨p, o, f1, f2, f3, f4, f5⟩ := q
      exact ⟨p, o, f1, by rw [upd_ne (hne p f3)]; exact f2, by rw [upd_ne (hne p f3)]; exact f3, hb p f3 f4, f.oc f5⟩
    | ox cs d =>
      obtain ⟨⟨v, g1, g2⟩, g3, g4⟩ := q
      refine ⟨⟨v, g1, f.dr _ _ g2⟩, fun p hp => ?_, g4⟩
      obtain ⟨o, f2, f3, f4, f5⟩ := (g3 p hp).ex
      exact ⟨o, by rw [upd_ne (hne _ f3)]; exact f2, by rw [upd_ne (hne _ f3)]; exact f3, hb _ f3 f4, f.oc f5⟩
theorem JH.unlockK (j : JH B0 B H0 H) (h0 : H0 a = some (.dK t)) {L0 L : Hp} (g : JH (upd H0 a (.frz od (.dK t))) (baseF B H0 a (.frz od (.dK t))) L0 L) :
    L0 a = some (.frz od (.dK t)) ∧ L a = some (.frz od (.dK t)) ∧ JH B0 B (upd L0 a (.dK t)) (upd L a (.dK t)) := by
  have e0 : L0 a = some (.frz od (.dK t)) := g.s0 _ _ upd_same
  refine ⟨e0, g.sh _ _ e0, fun b u e => ?_, same_lock g.sh, fun b u e => ?_, fun b u e nt e' => ?_⟩
  · have q := j.s0 b u e
    by_cases hb : b = a
    · subst hb; rw [upd_same, ← h0]; exact q
    · rw [upd_ne hb]; exact g.s0 b u (by rw [upd_ne hb]; exact q)
  · by_cases hb : b = a
    · subst hb
      have h1 := j.sh _ _ h0
      rw [upd_same, ← h1]; exact j.sB b u e
    · rw [upd_ne hb]
      refine g.sB b u ?_
      unfold baseF
      rw [if_neg hb, e]
  · have q := j.fr b u e nt e'
    have hb : b ≠ a := fun z => by subst z; rw [h0] at q; cases q
    rw [upd_ne hb]
    refine g.fr b u ?_ nt (by rw [upd_ne hb]; exact q)
    unfold baseF
    rw [if_neg hb, e]
theorem J.unlockK (j : JH B0 B H0 H) (h0 : H0 a = some (.dK t)) {L0 L : Hp} (j1 : J K (upd H0 a (.frz od (.dK t))) (baseF B H0 a (.frz od (.dK t))) σ1 L0 L ρ1) : J K B0 B σ1 (upd L0 a (.dK t)) (upd L a (.dK t)) ρ1 := by
  obtain ⟨e0, e1, g⟩ := j.unlockK h0 j1.hp
  have f := fz_unlockK e0
  refine ⟨g, j1.len, fun i s ov q1 q2 => ?_, j1.dis⟩
  have q := j1.sl i s ov q1 q2
  cases s with
  | no => trivial
  | sh d => obtain ⟨v, h1, h2⟩ := q; exact ⟨v, h1, f.dr _ _ h2⟩
  | ow c =>
    obtain ⟨p, o, f1, f2, f3, f4, f5⟩ := q
    obtain ⟨n1, n2⟩ := base_none f4
    exact ⟨p, o, f1, by rw [upd_ne n1]; exact f2, by rw [upd_ne n1]; exact f3, n2, f.oc f5⟩
  | ox cs d =>
    obtain ⟨⟨v, g1, g2⟩, g3, g4⟩ := q
    refine ⟨⟨v, g1, f.dr _ _ g2⟩, fun p hp => ?_, g4⟩
    obtain ⟨o, f2, f3, f4, f5⟩ := (g3 p hp).ex
    obtain ⟨n1, n2⟩ := base_none f4
    exact ⟨o, by rw [upd_ne n1]; exact f2, by rw [upd_ne n1]; exact f3, n2, f.oc f5⟩
end
section
variable {X : Cx} {ρ ρ' : En} {Φ : Out → Prop} {pos : Pos}
theorem dwj_K {K : PySem.W.Frag} {H0 H : Hp} {a : Addr} {od : Obj} {ks : List Key} {vs : List V} (hl : ks.length = vs.length) (h : H a = some (.frz od (.dK (ks.zip vs)))) : DWalkJ K (Itk a od (ks.zip vs)) H0 H (ks.map kD) := by
  have hz : (ks.zip vs).length = (ks.map kD).length := by rw [List.length_zip, List.length_map]; omega
  refine ⟨_, _, (by rw [← hz]; exact walk_keys), fun L0 L g => g.sB _ _ h, fun i L0 L x L' d hd g y => ?_⟩
  obtain ⟨rfl, k, v, h1, rfl⟩ := y
  obtain ⟨h2, h3⟩ := List.getElem?_zip_eq_some.mp h1
  rw [List.getElem?_map, h2] at hd
  cases hd
  refine ⟨L0, JH.refl g.sh, ?_⟩
  cases k <;> rfl
end
theorem JH.unlockEK {H0 H : Hp} {a : Addr} {t : List (Key × V)} {od : Obj} (h0 : H0 a = some (.dK t)) (hH : H a = some (.dK t)) {L0 L : Hp} (g : JH (upd H0 a (.frz od (.dK t))) (upd H a (.frz od (.dK t))) L0 L) :
    L0 a = some (.frz od (.dK t)) ∧ L a = some (.frz od (.dK t)) ∧ JH H0 H (upd L0 a (.dK t)) (upd L a (.dK t)) := by
  have e0 : L0 a = some (.frz od (.dK t)) := g.s0 _ _ upd_same
  refine ⟨e0, g.sh _ _ e0, fun b u e => ?_, same_lock g.sh, fun b u e => ?_, fun b u e nt e' => ?_⟩
  · by_cases hb : b = a
    · subst hb; rw [upd_same, ← h0]; exact e
    · rw [upd_ne hb]; exact g.s0 b u (by rw [upd_ne hb]; exact e)
  · by_cases hb : b = a
    · subst hb; rw [upd_same, ← hH]; exact e
    · rw [upd_ne hb]; exact g.sB b u (by rw [upd_ne hb]; exact e)
  · have hb : b ≠ a := fun z => by subst z; rw [h0] at e'; cases e'
    rw [upd_ne hb]
    exact g.fr b u (by rw [upd_ne hb]; exact e) nt (by rw [upd_ne hb]; exact e')
section
variable {X : Cx} {ρ : En} {pos : Pos} {elt tg : Expr} {ifs : List Expr} {scope : Scope} {cpos : Pos} {Φ : Out → Prop}
theorem ws_setLcK (i m : Nat) {x y : Str} {p1 py : Pos} {ks : List Key} {es : List D} (own : List (Str × Nat)) (hc : X.calm = true) (hN : X.N.Nodup) (ok : BlkOk X.N X.env.scope scope own) (hρ : ρ[i]? = some (.sh (.dk ks es))) (ys : List (Option D)) (hlen : ys.length = ks.length) (turn : ∀ (n : Nat) d y, (ks.map kD)[n]? = some d → ys[n]? = some y → Turn1 X ρ scope (own.map (·.2)) tg elt ifs d y) (hl : ks.length ≤ sizeLine)
    (hΦ : Φ (.nx (ρ.set m (.ow (.lst (ys.filterMap id)))))) (hNi : X.N[i]? = some x := by rfl) (hy : X.N[m]? = some y := by rfl) (hyl : X.env.scope.names.lookup y = some .local := by rfl) (hv : Vis X.env.scope x := by first | exact Or.inl rfl | exact Or.inr (Or.inl rfl) | exact Or.inr (Or.inr rfl)) (hd : (x == ("__debug__" : Str)) = false := by decide) (hcd : (x == ("__classdict__" : Str)) = false := by decide)
    (hsw : swapsWith (.ListComp elt [⟨tg, .Name x p1, ifs, 0⟩] scope cpos) (some (.Name y py)) pos.line X.env = pure true := by exact sw_true rfl rfl rfl (by decide +kernel)) (hs : ∀ z, foldedSetIterable (.Name x p1) X.env z = pure z := by intro _; rfl) :
    WS X (.Assign [.Name y py] (.ListComp elt [⟨tg, .Name x p1, ifs, 0⟩] scope cpos) pos) ρ Φ := fun B0 B σ H0 H Dn j k => by
  obtain ⟨ov, e1, v, rfl, r0⟩ := j.get hρ
  obtain ⟨a, vs, rfl, h1, hkl, hres⟩ := r0
  have run := ps_setLc (X := X) (tg := tg) (iter := .Name x p1) (elt := elt) (ifs := ifs) (scope := scope) (own := own) (pos := cpos) (spos := pos) (py := py) hc hN hy hyl hsw pi_star ok (g := GB X scope tg) (tt := TB X scope ifs) (te := EB X scope elt)
    (fun s H C cl fp => ⟨fun pins s1 σ1 H1 v u Q1 I r h => (pg_star (tg := tg)).run pins s1 σ1 H1 v u Q1 I r (h s H C cl fp)⟩)
    (fun s H C cl fp => ⟨fun pins s1 σ1 H1 Q1 I h => by obtain ⟨t, h1, h2⟩ := h s H C cl fp; exact h1.run pins s1 σ1 H1 Q1 I h2⟩)
    (fun s H C cl fp => ⟨fun pins s1 σ1 H1 Q1 I h => (pe_star (e := elt)).run pins s1 σ1 H1 Q1 I (h s H C cl fp)⟩) hs
  rcases h1 with h1 | ⟨od, h1⟩
  · have hH := j.same _ _ h1
    refine ⟨_, ps_lock run, a, _, hH, trivial, fun od => ?_⟩
    refine lc_readJ (ds := ks.map kD) (fun R hR => ⟨_, pi_keys (pe_var hNi hv hd hcd), .ref a, e1, a, od, rfl, .inl ⟨ks.zip vs, upd_same, hR _ _ _ (JH.refl (same_lock j.same)) (dwj_K hkl upd_same)⟩⟩) ys (by rw [List.length_map]; exact hlen) turn (by rw [List.length_map]; exact hl) (j.lockK h1) fun b o L0 L g e2 e3 e4 r => ?_
    obtain ⟨z1, z2, z3⟩ := JH.unlockEK h1 hH g
    have nb : b ≠ a := fun z => by rw [z, upd_same] at e4; cases e4
    rw [upd_ne nb] at e4
    exact ⟨z2, k _ hΦ _ _ _ (j.setNew z3 (by rw [upd_ne nb]; exact e2) (by rw [upd_ne nb]; exact e3) e4 ((fz_unlockK z1).oc r))⟩
  · have hH := j.same _ _ h1
    refine ⟨_, run, ?_⟩
    exact lc_readJ (ds := ks.map kD) (fun R hR => ⟨_, pi_keys (pe_var hNi hv hd hcd), .ref a, e1, a, od, rfl, .inl ⟨ks.zip vs, hH, hR _ _ _ (JH.refl j.same) (dwj_K hkl hH)⟩⟩) ys (by rw [List.length_map]; exact hlen) turn (by rw [List.length_map]; exact hl) j fun b o L0 L g e2 e3 e4 r => k _ hΦ _ _ _ (j.setNew g e2 e3 e4 r)
theorem ws_setFilterK (i m : Nat) {x y : Str} {p1 py : Pos} {ks : List Key} {es : List D} (own : List (Str × Nat)) (p : Key → Bool) (hc : X.calm = true) (hN : X.N.Nodup) (ok : BlkOk X.N X.env.scope scope own) (hρ : ρ[i]? = some (.sh (.dk ks es))) (turn : ∀ q ∈ ks, Turn1 X ρ scope (own.map (·.2)) tg elt ifs (kD q) (if p q = true then some (kD q) else none)) (hl : ks.length ≤ sizeLine)
    (hΦ : Φ (.nx (ρ.set m (.ow (.lst ((ks.filter p).map kD)))))) (hNi : X.N[i]? = some x := by rfl) (hy : X.N[m]? = some y := by rfl) (hyl : X.env.scope.names.lookup y = some .local := by rfl) (hv : Vis X.env.scope x := by first | exact Or.inl rfl | exact Or.inr (Or.inl rfl) | exact Or.inr (Or.inr rfl)) (hd : (x == ("__debug__" : Str)) = false := by decide) (hcd : (x == ("__classdict__" : Str)) = false := by decide)
    (hsw : swapsWith (.ListComp elt [⟨tg, .Name x p1, ifs, 0⟩] scope cpos) (some (.Name y py)) pos.line X.env = pure true := by exact sw_true rfl rfl rfl (by decide +kernel)) (hs : ∀ z, foldedSetIterable (.Name x p1) X.env z = pure z := by intro _; rfl) :
    WS X (.Assign [.Name y py] (.ListComp elt [⟨tg, .Name x p1, ifs, 0⟩] scope cpos) pos) ρ Φ :=
  ws_setLcK i m own hc hN ok hρ (ks.map fun q => if p q = true then some (kD q) else none) (by simp) (turns_if rfl turn) hl (by rw [filterMap_if]; exact hΦ) hNi hy hyl hv hd hcd hsw hs
end
section
variable {X : Cx}
theorem pi_keysLK {tg e : Expr} {te : TE} (he : PE X e te) : PI X tg e (fun σ H R => te σ H fun x H1 => ∃ (a : Addr) (kvs : List (Key × V)), x = .ref a ∧ H1 a = some (.dK kvs) ∧ ∀ od, R (Itk a od kvs) (upd H1 a (.frz od (.dK kvs)))) := by
  refine ⟨fun pins s σ H R I h => ?_⟩
  refine thn (he.run pins s σ H _ I h) fun u s1 ⟨x, H1, I0, rx, d, kvs, ex, hd0, q⟩ => ?_
  subst ex
  obtain rfl : u = Value.ref d := rx
  obtain ⟨o, I1⟩ := I0.lock hd0 trivial
  have hd : (upd H1 d (.frz o (.dK kvs))) d = some (.frz o (.dK kvs)) := upd_same
  obtain ⟨hs, hgd, hx, es, ep, vs, hdt, hsz, kv, hm⟩ := I1.frzK hd
  refine iter_keys hs hgd hx hdt (pi_one (tk := s1.toks) I1 _ (turn_keys _ hdt) ⟨_, Heap.get?_push_size _ rfl, rfl, ?_⟩ (q o))
  rw [hsz] <;> rfl
theorem id_dkE {ρ : En} {tg e : Expr} {ks : List Key} {es : List D} (h : EO X ρ e (.dk ks es)) : ID X ρ tg e (ks.map kD) := fun B0 B σ H0 H R j k =>
  ⟨_, pi_keysLK pe_star, h B0 B σ H0 H _ j fun a o G0 G g h1 h2 h3 r => by
    obtain ⟨vs, rfl, hl, hr⟩ := r
    refine ⟨a, ks.zip vs, rfl, h1, fun od => ?_⟩
    have ne0 : ∀ b u, G0 b = some u → b ≠ a := fun b u e => ne_of_none e h2
    have gg : JH H0 H (upd G0 a (.frz od (.dK (ks.zip vs)))) (upd G a (.frz od (.dK (ks.zip vs)))) := by
      refine ⟨fun b u e => upd_keep (g.s0 b u e) (ne0 b u (g.s0 b u e)), fun b u e => ?_, fun b u e => upd_keep (g.sB b u e) (ne_of_none e h3), fun b u e nt e' => ?_⟩
      · by_cases hb : b = a
        · subst hb; rw [upd_same] at e ⊢; exact e
        · rw [upd_ne hb] at e ⊢; exact g.sh b u e
      · rw [upd_ne (ne_of_none e h3)]; exact g.fr b u e nt e'
    have hz : (ks.zip vs).length = (ks.map kD).length := by rw [List.length_zip, List.length_map]; omega
    refine k _ _ _ gg ⟨_, _, (by rw [← hz]; exact walk_keys), fun L1 L s1 s2 => s2 _ _ (s1 _ _ upd_same), fun i L1 L x L' d hd s1 s2 y => ?_⟩
    obtain ⟨rfl, k', v, e1, rfl⟩ := y
    obtain ⟨f1, f2⟩ := List.getElem?_zip_eq_some.mp e1
    rw [List.getElem?_map, f1] at hd
    cases hd
    refine ⟨L1, JH.refl s2, ?_⟩
    cases k' <;> rfl⟩
end
end DL
namespace DL
open PySem PySem.Spec PyProof.Rows L2
section
variable {X : Cx} {ρ : En} {o e f : Expr} {pos apos : Pos} {d d2 : D} {Φ : Out → Prop}
theorem drs_snoc_last {K : PySem.W.Frag} {H : Hp} : ∀ {ds : List D} {d : D} {vs : List V}, DRs K H (ds ++ [d]) vs → ∃ ws v, vs = ws ++ [v] ∧ DRs K H ds ws ∧ DR K H d v
  | [], d, vs, h => by
    obtain ⟨v, r, rfl, h1, h2⟩ := h
    cases (show r = [] from h2)
    exact ⟨[], v, rfl, rfl, h1⟩
  | x :: ds, d, vs, h => by
    obtain ⟨v, r, rfl, h1, h2⟩ := h
    obtain ⟨ws, u, rfl, h3, h4⟩ := drs_snoc_last h2
    exact ⟨v :: ws, u, rfl, ⟨v, ws, rfl, h1, h3⟩, h4⟩
/-- y = x.pop(), x the list that slot r owns -/
theorem ws_setPop (i r : Nat) {x y : Str} {ds : List D} {p0 p1 p2 p3 : Pos} (hN : X.N.Nodup) (hρ : ρ[r]? = some (.ow (.lst (ds ++ [d])))) (hΦ : Φ (.nx ((ρ.set r (.ow (.lst ds))).set i (.sh d))))
    (hpe : PE X (.Call (.Attribute (.Name x p1) "pop" p2) [] [] p3) (tBM0 X.K "list" rPop (tVar r)))
    (hi : X.N[i]? = some y := by rfl) (hx : Loc X.env.scope y := by first | exact Or.inl rfl | exact Or.inr rfl)
    (hs : swapsWith (.Call (.Attribute (.Name x p1) "pop" p2) [] [] p3) (some (.Name y p0)) pos.line X.env = pure false := by rfl) (hf : X.fn y = true ∨ X.env.scope.names.lookup y = some .local := by first | exact .inl rfl | exact .inr rfl) :
    WS X (.Assign [.Name y p0] (.Call (.Attribute (.Name x p1) "pop" p2) [] [] p3) pos) ρ Φ := fun B0 B σ H0 H Dn j k => by
  obtain ⟨ov, e0, q, o, rfl, w1, w2, w3, w4⟩ := j.get hρ
  obtain ⟨vs, rfl, r0⟩ := w4
  obtain ⟨ws, v, rfl, r1, r2⟩ := drs_snoc_last r0
  refine ⟨_, ps_set hN hi hx hpe hs hf, _, e0, Or.inl ⟨rfl, _, Or.inl (Or.inl w1)⟩, q, ws ++ [v], v, rfl, rfl, w1, by simp, ?_⟩
  rw [List.dropLast_concat]
  exact k _ hΦ _ H0 _ ((j.write (c' := .lst ds) (o := .lst ws) hρ e0 ⟨ws, rfl, r1⟩).setSh r2)
theorem lookK_none {k : Key} : ∀ {ks : List Key} {ds : List D} {vs : List V}, ks.length = ds.length → lookK ks ds k = none → valV (ks.zip vs) k = none
  | [], ds, vs, _, _ => by simp [valV]
  | k0 :: ks, [], vs, hl, _ => by simp at hl
  | k0 :: ks, d :: ds, [], hl, h => by simp [valV]
  | k0 :: ks, d :: ds, v :: vs, hl, h => by
    unfold lookK at h
    by_cases q : k0 = k
    · rw [if_pos q] at h; cases h
    · rw [if_neg q] at h
      rw [List.zip_cons_cons, valV_neg (p := (k0, v)) q]
      exact lookK_none (by simpa using hl) h
/-- d.get(k, e) -/
theorem ed_dget2 {ks : List Key} {ds : List D} {k0 : Key} (hu : X.A.units + 64 < cLine) (ho : ED X ρ o (.dk ks ds)) (he : ED X ρ e (kD k0)) (hf : ED X ρ f d2) (m : M2 X o "get" apos e f pos) : ED X ρ (.Call (.Attribute o "get" apos) [e, f] [] pos) ((lookK ks ds k0).getD d2) := fun B0 B σ H0 H Q j kk => by
  refine RE.of (pe_dget2 (by omega) pe_star pe_star pe_star m) (ho B0 B σ H0 H _ j fun x G0 G g r => ?_)
  obtain ⟨a, vs, rfl, h1, h2, h3⟩ := r
  have hl : ks.length = ds.length := by rw [h2, DRs.length h3]
  refine ⟨a, rfl, .inl ⟨_, Same.rd g.sh h1⟩, he B0 B σ G0 G _ (j.grow g) fun y L0 L g2 r2 => hf B0 B σ L0 L _ ((j.grow g).grow g2) fun z M0 M g3 r3 => ?_⟩
  rw [kD_val r2]
  refine ⟨valV (ks.zip vs) k0, .inl ⟨_, k0, Same.rd g3.sh (Same.rd g3.s0 (Same.rd g2.s0 h1)), rfl, rfl⟩, kk _ M0 M ((g.trans g2).trans g3) ?_⟩
  cases e : lookK ks ds k0 with
  | none =>
    rw [lookK_none hl e]; exact r3
  | some d =>
    obtain ⟨v, e1, e2⟩ := lookK_val h3 e
    rw [e1]
    exact DR.mono (g2.s0.trans g3.s0) _ _ e2
/-- x.setdefault(y, []), x a dict of the def's own at a place that is told -/
theorem ep_setdef (i : Nat) {x : Str} {p1 p2 p3 p4 : Pos} {l : Addr} {y : Int} {ks : List Key} {ds : List D} {cs : Cs} {e : Expr} (hi : ρ[i]? = some (.ox ((l, .dk ks ds) :: cs) (.ad l))) (he : ED X ρ e (.int y)) (hl : ks.length < sizeLine)
    (m : M2 X (.Name x p1) "setdefault" p2 e (.List [] p3) p4)
    (hN : X.N[i]? = some x := by rfl) (hv : Vis X.env.scope x := by first | exact Or.inl rfl | exact Or.inr (Or.inl rfl) | exact Or.inr (Or.inr rfl)) (hd : (x == ("__debug__" : Str)) = false := by decide) (hcd : (x == ("__classdict__" : Str)) = false := by decide) :
    EP X ρ (.Call (.Attribute (.Name x p1) "setdefault" p2) [e, .List [] p3] [] p4) (fun d ρ' => (∃ (n : Nat), ks[n]? = some (Sum.inl y) ∧ ds[n]? = some d ∧ ρ' = ρ) ∨ (Sum.inl y ∉ ks ∧ ∃ q, q ∉ (((l, OC.dk ks ds) :: cs).map (·.1)) ∧ d = .ad q ∧ ρ' = ρ.set i (.ox (putC (((l, .dk ks ds) :: cs) ++ [(q, .lst [])]) l (.dk (ks ++ [Sum.inl y]) (ds ++ [.ad q]))) (.ad l)))) := fun B0 B σ H0 H Q J k => by
  refine RE.of (pe_dsetd (pe_var hN hv hd hcd) pe_star pe_star m) ?_
  obtain ⟨ov, e0, ⟨v, rfl, hvv⟩, _⟩ := J.get hi
  cases (show v = .ref l from hvv)
  obtain ⟨o0, f1, _, _, vs0, rfl, _⟩ := J.cell hi (List.mem_cons_self ..)
  refine ⟨_, e0, l, rfl, .inl ⟨_, .inl f1⟩, he B0 B σ H0 H _ J fun yv G0 G g1 r1 => ?_⟩
  cases (show yv = .int y from r1)
  refine eo_lst (X := X) (ρ := ρ) ad_nil (by decide) B0 B σ G0 G _ (J.grow g1) fun q o L0 L g2 w1 w2 w3 w4 => ?_
  have j2 := (J.grow g1).grow g2
  obtain ⟨o1, z1, z2, z3, vs, rfl, hlen, rr⟩ := j2.cell hi (List.mem_cons_self ..)
  refine ⟨ks.zip vs, Sum.inl y, z1, rfl, by rw [List.length_zip, ← hlen]; omega, fun v hv => ?_, fun hn => ?_⟩
  · rcases valV_zip (k := Sum.inl y) hlen with ⟨m, e1, v', e2, e3⟩ | ⟨_, e3⟩
    · rw [hv] at e3; cases e3
      obtain ⟨dd, e4, e5⟩ := DRs.get' rr e2
      exact k dd ρ _ L0 L (.inl ⟨m, e1, e4, rfl⟩) (g1.trans g2).s0 j2 e5
    · rw [hv] at e3; cases e3
  · rcases valV_zip (k := Sum.inl y) hlen with ⟨m, e1, v', e2, e3⟩ | ⟨nk, _⟩
    · rw [hn] at e3; cases e3
    · rw [putK_zip hlen nk]
      have j3 := (J.grow g1).more g2 hi w1 w2 w3 w4
      have hlt : i < ρ.length := (List.getElem?_eq_some_iff.mp hi).1
      have j4 := j3.put (i := i) (a := l) (c := .dk ks ds) (c' := .dk (ks ++ [Sum.inl y]) (ds ++ [.ad q])) (o := .dK ((ks ++ [Sum.inl y]).zip (vs ++ [V.ref q]))) (by rw [List.getElem?_set_self hlt]) (by simp) ⟨_, rfl, by simp [hlen], DRs.app rr (DRs.one (d := .ad q) (v := V.ref q) rfl)⟩
      rw [List.set_set] at j4
      refine k (.ad q) _ _ L0 _ (.inr ⟨nk, q, fun hq => ?_, rfl, rfl⟩) (g1.trans g2).s0 j4 rfl
      obtain ⟨_, _, _, _, nd⟩ := j3.get (i := i) (s := .ox (((l, .dk ks ds) :: cs) ++ [(q, .lst [])]) (.ad l)) (by rw [List.getElem?_set_self hlt])
      rw [List.map_append, List.nodup_append] at nd
      exact nd.2.2 q hq q (by simp) rfl
/-- a.append(e), a an expression that changes the slots and gives a list at a place -/
theorem ws_appendEP {a e : Expr} {p2 p3 : Pos} {Ψ : D → En → Prop} (ha : EP X ρ a Ψ) (h : ∀ d' ρ', Ψ d' ρ' → ∃ (i : Nat) (cs : Cs) (d0 : D) (p : Addr) (ds : List D) (d : D), d' = .ad p ∧ ρ'[i]? = some (.ox cs d0) ∧ (p, OC.lst ds) ∈ cs ∧ ED X ρ' e d ∧ ds.length < sizeLine ∧ Φ (.nx (ρ'.set i (.ox (putC cs p (.lst (ds ++ [d]))) d0))))
    (hpe : ∀ {to : TE} {ta : TA}, PE X a to → PA X [e] ta → PS X (.Expr (.Call (.Attribute a "append" p2) [e] [] p3) pos) (tDrop (tBM X.K "list" rAppend to ta))) (hs : starEach [e] X.env = (false, eval e X.env) :: starEach [] X.env := by rfl) :
    WS X (.Expr (.Call (.Attribute a "append" p2) [e] [] p3) pos) ρ Φ := fun B0 B σ H0 H Dn j k => by
  refine ⟨_, hpe pe_star pa_star, ha B0 B σ H0 H _ j fun d' ρ' v G0 G w s1 j0 r => ?_⟩
  obtain ⟨i, cs, d0, p, ds, d, rfl, hi, hm, he, hl, hΦ⟩ := h d' ρ' w
  cases (show v = .ref p from r)
  obtain ⟨o, h1, h2, h3, vs, rfl, r⟩ := j0.cell hi hm
  refine ⟨Or.inl ⟨rfl, _, Or.inl (Or.inl h1)⟩, ad_cons (X := X) he ad_nil hs B0 B σ G0 G _ j0 fun ws L0 L g2 rr => ?_⟩
  obtain ⟨y, rfl, ry⟩ := rr.one'
  have j1 := j0.grow g2
  obtain ⟨o', h1', h2', h3', vs', rfl, r'⟩ := j1.cell hi hm
  exact ⟨p, vs', y, rfl, rfl, h1', by rw [← DRs.length r']; exact hl, k _ hΦ _ L0 _ (j1.put hi hm ⟨_, rfl, DRs.app r' (DRs.one ry)⟩)⟩
end
end DL
namespace DL
open PySem PySem.Spec PyProof.Rows L2
def PrD (K : PySem.W.Frag) (H : Hp) : List (Key × D) → List (V × V) → Prop
  | [], ps => ps = []
  | (k, d) :: r, ps => ∃ v t, ps = (kV k, v) :: t ∧ DR K H d v ∧ PrD K H r t
theorem PrD.mono {K : PySem.W.Frag} {H H' : Hp} (s : Same H H') : ∀ {kds : List (Key × D)} {ps : List (V × V)}, PrD K H kds ps → PrD K H' kds ps
  | [], ps, h => h
  | (k, d) :: r, ps, h => by
    obtain ⟨v, t, rfl, h1, h2⟩ := h
    exact ⟨v, t, rfl, DR.mono s _ _ h1, PrD.mono s h2⟩
theorem PrD.vals {K : PySem.W.Frag} {H : Hp} : ∀ {kds : List (Key × D)} {ps : List (V × V)}, PrD K H kds ps → ∃ vs, ps = ((kds.map (·.1)).zip vs).map (fun kv => (kV kv.1, kv.2)) ∧ (kds.map (·.1)).length = vs.length ∧ DRs K H (kds.map (·.2)) vs
  | [], ps, h => ⟨[], h, rfl, rfl⟩
  | (k, d) :: r, ps, h => by
    obtain ⟨v, t, rfl, h1, h2⟩ := h
    obtain ⟨vs, rfl, hl, hr⟩ := PrD.vals h2
    exact ⟨v :: vs, rfl, by simpa using hl, v, vs, rfl, h1, hr⟩
section
variable {X : Cx} {ρ : En} {pos : Pos}
/-- the pairs of a display -/
def prTs (X : Cx) : List (Option Expr) → List Expr → List (TE × TE)
  | some k :: ks, v :: vs => (RE X k, RE X v) :: prTs X ks vs
  | _, _ => []
structure PD (X : Cx) (pos : Pos) (ρ : En) (keys : List (Option Expr)) (values : List Expr) (kds : List (Key × D)) : Prop where
  pp : PPs X pos keys values (prTs X keys values)
  run : ∀ B0 B σ H0 H (Q : List (V × V) → Hp → Prop), J X.K B0 B σ H0 H ρ → (∀ ps H0' H', JH H0 H H0' H' → PrD X.K H0' kds ps → Q ps H') → tPairs (prTs X keys values) σ H Q
  all : keys.all (·.isSome) = true
  len : keys.length = values.length
  few : keys.length = kds.length
theorem pd_nil : PD X pos ρ [] [] [] := ⟨pps_nil, fun B0 B σ H0 H Q j k => k [] H0 H (JH.refl j.same) rfl, rfl, rfl, rfl⟩
theorem pd_cons {a b : Expr} {keys : List (Option Expr)} {values : List Expr} {kds : List (Key × D)} {k0 : Key} {d : D} (hk : ED X ρ a (kD k0)) (hv : ED X ρ b d) (r : PD X pos ρ keys values kds) : PD X pos ρ (some a :: keys) (b :: values) ((k0, d) :: kds) := by
  refine ⟨pps_cons pe_star pe_star r.pp, fun B0 B σ H0 H Q j k => ?_, by rw [List.all_cons, r.all]; rfl, by rw [List.length_cons, List.length_cons, r.len], by rw [List.length_cons, List.length_cons, r.few]⟩
  refine hk B0 B σ H0 H _ j fun x G0 G g1 r1 => hv B0 B σ G0 G _ (j.grow g1) fun y L0 L g2 r2 => r.run B0 B σ L0 L _ ((j.grow g1).grow g2) fun ps M0 M g3 r3 => ?_
  rw [kD_val r1]
  exact k _ M0 M ((g1.trans g2).trans g3) ⟨y, ps, rfl, DR.mono g3.s0 _ _ r2, r3⟩
theorem mergeK_fresh : ∀ (ks : List Key) (vs : List V) (js : List Key) (us : List V), js.length = us.length → ks.length = vs.length → (js ++ ks).Nodup → mergeK (js.zip us) (ks.zip vs) = (js ++ ks).zip (us ++ vs)
  | [], vs, js, us, _, hl, _ => by
    have : vs = [] := List.length_eq_zero_iff.mp hl.symm
    subst this
    rw [List.append_nil, List.append_nil]; rfl
  | k :: ks, [], js, us, _, hl, _ => by simp at hl
  | k :: ks, v :: vs, js, us, hj, hl, nd => by
    have nk : k ∉ js := fun m => (List.nodup_append.mp nd).2.2 k m k List.mem_cons_self rfl
    show mergeK (putK (js.zip us) k v) (ks.zip vs) = _
    rw [putK_zip hj nk, mergeK_fresh ks vs (js ++ [k]) (us ++ [v]) (by simp [hj]) (by simpa using hl) (by rw [List.append_assoc]; exact nd)]
    rw [List.append_assoc, List.append_assoc]; rfl
/-- {k: e, ..} -/
theorem eo_disp {keys : List (Option Expr)} {values : List Expr} {kds : List (Key × D)} (h : PD X pos ρ keys values kds) (nd : (kds.map (·.1)).Nodup) (h0 : keys ≠ [] := by simp) (h15 : keys.length ≤ 15 := by decide) : EO X ρ (.Dict keys values pos) (.dk (kds.map (·.1)) (kds.map (·.2))) := fun B0 B σ H0 H Q j k => by
  refine RE.of (pe_disp h.pp h.all h.len h0 h15) fun p hp => ?_
  have g0 : JH H0 H H0 (upd H p (.dK [])) := JH.own j.same hp
  have p0 : H0 p = none := j.same.free hp
  refine h.run B0 B σ H0 _ _ (j.grow g0) fun ps G0 G g r => ?_
  obtain ⟨vs, rfl, hl, hr⟩ := r.vals
  have e1 : G p = some (.dK []) := g.sB _ _ upd_same
  have e0 : G0 p = none := g.fr p _ upd_same trivial p0
  refine ⟨e1, (kds.map (·.1)).zip vs, rfl, by rw [List.length_zip, List.length_map]; have := h.few; omega, ?_⟩
  have em : mergeK [] ((kds.map (·.1)).zip vs) = (kds.map (·.1)).zip vs := by
    have := mergeK_fresh (kds.map (·.1)) vs [] [] rfl hl (by simpa using nd)
    simpa using this
  rw [em]
  have gg : JH H0 H G0 (upd G p (.dK ((kds.map (·.1)).zip vs))) := by
    refine ⟨g.s0, fun b u e => upd_keep (g.sh b u e) (fun z => by subst z; rw [e0] at e; cases e), fun b u e => upd_keep (g.sB b u (upd_keep e (ne_of_none e hp))) (ne_of_none e hp), fun b u e nt e' => g.fr b u (upd_keep e (ne_of_none e hp)) nt e'⟩
  exact k p _ G0 _ gg upd_same e0 hp ⟨vs, rfl, hl, hr⟩
end
theorem ws_forUB {X : Cx} {ρ : En} {α U : Type} {tg iter : Expr} {ds : List D} {pos : Pos} {Φ : Out → Prop} (xs : List α) (enc : α → D) {body : List Stmt} (hc : X.calm = true) (hi : ID X ρ tg iter ds) (he : ds = xs.map enc) (G : Nat → U → List (Nat × Sl)) (V : En → U) (P : Nat → Prop) (hρ : upds ρ (G 0 (V ρ)) = ρ) (h0 : P 0)
    (hs : ∀ i x u, xs[i]? = some x → P i → ∃ is ρ'', DG X is tg (enc x) (upds ρ (G i u)) ρ'' ∧ WSs X body ρ'' (fun o => match o with | .nx r => upds ρ (G (i + 1) (V r)) = r ∧ P (i + 1) | .ct r => upds ρ (G (i + 1) (V r)) = r ∧ P (i + 1) | .bk r => upds ρ (G xs.length (V r)) = r ∧ P xs.length | .rt v => Φ (.rt v) | .ro c => Φ (.ro c) | .rc v cs => Φ (.rc v cs)))
    (hd : ∀ u, P xs.length → Φ (.nx (upds ρ (G xs.length u))))
    (hp : PassesOwn (model X.prog X.w) X.A X.env X.xe := by exact PassesOwn.never) (hf : ∀ x, foldedSetIterable iter X.env x = pure x := by intro _; rfl) : WS X (.For tg iter body [] pos) ρ Φ := by
  refine ws_forU xs enc hc hi he G V P hρ h0 (fun i x u hx p => ?_) hd hp hf
  obtain ⟨is, r2, h1, h2⟩ := hs i x u hx p
  refine ⟨is, r2, h1, ws_mono h2 fun o ho => ?_⟩
  cases o with
  | nx r => exact ho
  | ct r => exact ho
  | bk r =>
    have := hd (V r) ho.2
    rw [ho.1] at this
    exact this
  | rt v => exact ho
  | ro c => exact ho
  | rc v cs => exact ho
end DL
namespace DL
open PySem PySem.Spec PyProof.Rows L2
abbrev Lk := List (Int × List Int)
def addL : Lk → Int → Int → Lk
  | [], k, v => [(k, [v])]
  | (a, xs) :: r, k, v => if a = k then (a, xs ++ [v]) :: r else (a, xs) :: addL r k v
def nbL : Lk → Int → List Int
  | [], _ => []
  | (a, xs) :: r, k => if a = k then xs else nbL r k
def keyK (L : Lk) : List Int := L.map (·.1)
theorem nbL_add (L : Lk) (k v m : Int) : nbL (addL L k v) m = if k = m then nbL L m ++ [v] else nbL L m := by
  induction L with
  | nil => show nbL [(k, [v])] m = _; unfold nbL; split <;> rfl
  | cons p r ih =>
    obtain ⟨a, xs⟩ := p
    show nbL (if a = k then (a, xs ++ [v]) :: r else (a, xs) :: addL r k v) m = _
    by_cases h : a = k
    · subst h
      rw [if_pos rfl]
      show (if a = m then xs ++ [v] else nbL r m) = if a = m then (if a = m then xs else nbL r m) ++ [v] else (if a = m then xs else nbL r m)
      by_cases e : a = m
      · rw [if_pos e, if_pos e, if_pos e]
      · rw [if_neg e, if_neg e, if_neg e]
    · rw [if_neg h]
      show (if a = m then xs else nbL (addL r k v) m) = if k = m then (if a = m then xs else nbL r m) ++ [v] else (if a = m then xs else nbL r m)
      by_cases e : a = m
      · rw [if_pos e, if_pos e, if_neg (fun z => h (e.trans z.symm))]
      · rw [if_neg e, if_neg e, ih]
theorem keyK_add (L : Lk) (k v m : Int) : m ∈ keyK (addL L k v) ↔ m ∈ keyK L ∨ m = k := by
  induction L with
  | nil => simp [addL, keyK]
  | cons p r ih =>
    obtain ⟨a, xs⟩ := p
    show m ∈ keyK (if a = k then (a, xs ++ [v]) :: r else (a, xs) :: addL r k v) ↔ _
    by_cases h : a = k
    · subst h
      rw [if_pos rfl]
      simp only [keyK, List.map_cons, List.mem_cons]
      constructor
      · exact fun z => .inl z
      · rintro (z | z)
        · exact z
        · exact .inl z
    · rw [if_neg h]
      have ih' : m ∈ (addL r k v).map (·.1) ↔ m ∈ r.map (·.1) ∨ m = k := ih
      simp only [keyK, List.map_cons, List.mem_cons, ih', or_assoc]
theorem keyK_nodup (L : Lk) (k v : Int) (h : (keyK L).Nodup) : (keyK (addL L k v)).Nodup := by
  induction L with
  | nil => simp [addL, keyK]
  | cons p r ih =>
    obtain ⟨a, xs⟩ := p
    show (keyK (if a = k then (a, xs ++ [v]) :: r else (a, xs) :: addL r k v)).Nodup
    have h' := List.nodup_cons.mp h
    by_cases e : a = k
    · rw [if_pos e]; exact h
    · rw [if_neg e]
      refine List.nodup_cons.mpr ⟨fun m => ?_, ih h'.2⟩
      rcases (keyK_add r k v a).mp m with m | m
      · exact h'.1 m
      · exact e m
theorem nbL_mem {L : Lk} {m : Int} (h : m ∉ keyK L) : nbL L m = [] := by
  induction L with
  | nil => rfl
  | cons p r ih =>
    obtain ⟨a, xs⟩ := p
    show (if a = m then xs else nbL r m) = []
    rw [if_neg fun e => h (by rw [← e]; exact List.mem_cons_self)]
    exact ih fun z => h (List.mem_cons_of_mem _ z)
def lnkS (p : Dev → Bool) (L : Lk) (v : Dev) : Lk := if p v = true then addL (addL L v.a v.b) v.b v.a else L
def lnkL (p : Dev → Bool) (V : List Dev) : Lk := V.foldl (lnkS p) []
theorem lnkL_snoc (p : Dev → Bool) (V : List Dev) (v : Dev) : lnkL p (V ++ [v]) = lnkS p (lnkL p V) v := by unfold lnkL; rw [List.foldl_append]; rfl
/-- v links m to n -/
def lnkd (v : Dev) (m n : Int) : Prop := (v.a = m ∧ v.b = n) ∨ (v.b = m ∧ v.a = n)
theorem nbL_lnk (p : Dev → Bool) : ∀ (V : List Dev) (m n : Int), n ∈ nbL (lnkL p V) m ↔ ∃ v ∈ V, p v = true ∧ lnkd v m n := by
  refine snoc_ind (P := fun V => ∀ (m n : Int), n ∈ nbL (lnkL p V) m ↔ ∃ v ∈ V, p v = true ∧ lnkd v m n) (fun m n => by simp [lnkL, nbL]) fun V v ih m n => ?_
  rw [lnkL_snoc]
  unfold lnkS
  have key : (∃ w ∈ V ++ [v], p w = true ∧ lnkd w m n) ↔ (∃ w ∈ V, p w = true ∧ lnkd w m n) ∨ (p v = true ∧ lnkd v m n) := by
    constructor
    · rintro ⟨w, hw, h⟩
      rcases List.mem_append.mp hw with hw | hw
      · exact .inl ⟨w, hw, h⟩
      · rw [List.mem_singleton] at hw; subst hw; exact .inr h
    · rintro (⟨w, hw, h⟩ | h)
      · exact ⟨w, List.mem_append_left _ hw, h⟩
      · exact ⟨v, by simp, h⟩
  rw [key, ← ih]
  by_cases h : p v = true
  · rw [if_pos h, nbL_add, nbL_add]
    unfold lnkd
    by_cases e1 : v.b = m <;> by_cases e2 : v.a = m <;> simp [e1, e2, h] <;> constructor <;> intro z <;> (try omega) <;> (first | (rcases z with z | z <;> simp_all) | simp_all) <;> (try omega)
  · rw [if_neg h]
    constructor
    · exact fun z => .inl z
    · rintro (z | ⟨z, _⟩)
      · exact z
      · exact absurd z h
theorem lnk_keys (p : Dev → Bool) : ∀ (V : List Dev), (keyK (lnkL p V)).Nodup ∧ ∀ m ∈ keyK (lnkL p V), ∃ v ∈ V, v.a = m ∨ v.b = m := by
  refine snoc_ind (P := fun V => (keyK (lnkL p V)).Nodup ∧ ∀ m ∈ keyK (lnkL p V), ∃ v ∈ V, v.a = m ∨ v.b = m) ⟨by simp [lnkL, keyK], fun m h => by simp [lnkL, keyK] at h⟩ fun V v ih => ?_
  rw [lnkL_snoc]
  unfold lnkS
  by_cases h : p v = true
  · rw [if_pos h]
    refine ⟨keyK_nodup _ _ _ (keyK_nodup _ _ _ ih.1), fun m hm => ?_⟩
    rw [keyK_add, keyK_add] at hm
    rcases hm with (hm | hm) | hm
    · obtain ⟨w, hw, e⟩ := ih.2 m hm; exact ⟨w, List.mem_append_left _ hw, e⟩
    · exact ⟨v, by simp, .inl hm.symm⟩
    · exact ⟨v, by simp, .inr hm.symm⟩
  · rw [if_neg h]
    exact ⟨ih.1, fun m hm => by obtain ⟨w, hw, e⟩ := ih.2 m hm; exact ⟨w, List.mem_append_left _ hw, e⟩⟩
inductive Rch (E : Int → Int → Prop) (fx st : Int → Bool) : Int → Prop
  | base {m n : Int} : st m = true → E m n → fx n = false → Rch E fx st n
  | step {m n : Int} : Rch E fx st m → E m n → fx n = false → Rch E fx st n
theorem Rch.free {E : Int → Int → Prop} {fx st : Int → Bool} {n : Int} (h : Rch E fx st n) : fx n = false := by cases h <;> assumption
theorem Rch.mono {E E' : Int → Int → Prop} {fx st st' : Int → Bool} {n : Int} (h : Rch E fx st n) (h1 : ∀ m n, E m n → E' m n) (h2 : ∀ m, st m = true → st' m = true) : Rch E' fx st' n := by
  induction h with
  | base a b c => exact .base (h2 _ a) (h1 _ _ b) c
  | step a b c ih => exact .step ih (h1 _ _ b) c
def pst (fx : Int → Bool) (s : List Int × List Int) (n : Int) : List Int × List Int := if (!fx n && !decide (n ∈ s.1)) = true then (s.1 ++ [n], s.2 ++ [n]) else s
def pex (fx : Int → Bool) (L : Lk) (s : List Int × List Int) (r : Int) : List Int × List Int := (nbL L r).foldl (pst fx) s
def prun (fx : Int → Bool) (L : Lk) : Nat → List Int × List Int → List Int
  | 0, s => s.1
  | k + 1, s => match s.2.getLast? with
    | none => s.1
    | some r => prun fx L k (pex fx L (s.1, s.2.dropLast) r)
/-- what stands in found and left while the stack is worked off -/
structure PI (E : Int → Int → Prop) (fx st : Int → Bool) (s : List Int × List Int) : Prop where
  nd : s.1.Nodup
  sound : ∀ n ∈ s.1, Rch E fx st n
  left : ∀ n ∈ s.2, st n = true ∨ n ∈ s.1
  done : ∀ m, (st m = true ∨ m ∈ s.1) → m ∉ s.2 → ∀ n, E m n → fx n = true ∨ n ∈ s.1
theorem pst_1 {fx : Int → Bool} {s : List Int × List Int} {n : Int} : ∀ x, x ∈ (pst fx s n).1 ↔ x ∈ s.1 ∨ (x = n ∧ fx n = false) := fun x => by
  unfold pst
  by_cases h : (!fx n && !decide (n ∈ s.1)) = true
  · rw [if_pos h]
    simp only [Bool.and_eq_true, Bool.not_eq_true', decide_eq_false_iff_not] at h
    show x ∈ s.1 ++ [n] ↔ _
    rw [List.mem_append, List.mem_singleton]
    constructor
    · rintro (z | z)
      · exact .inl z
      · exact .inr ⟨z, h.1⟩
    · rintro (z | z)
      · exact .inl z
      · exact .inr z.1
  · rw [if_neg h]
    constructor
    · exact fun z => .inl z
    · rintro (z | ⟨rfl, z⟩)
      · exact z
      · simp [z] at h; exact h
/-- one neighbour after the other: those before are done -/
structure PJ (E : Int → Int → Prop) (fx st : Int → Bool) (r : Int) (ns : List Int) (s : List Int × List Int) : Prop where
  nd : s.1.Nodup
  sound : ∀ n ∈ s.1, Rch E fx st n
  left : ∀ n ∈ s.2, st n = true ∨ n ∈ s.1
  done : ∀ m, (st m = true ∨ m ∈ s.1) → m ∉ s.2 → m ≠ r → ∀ n, E m n → fx n = true ∨ n ∈ s.1
  seen : ∀ n ∈ ns, fx n = true ∨ n ∈ s.1
theorem pj_step {E : Int → Int → Prop} {fx st : Int → Bool} {r n : Int} {ns : List Int} {s : List Int × List Int} (h : PJ E fx st r ns s) (hr : st r = true ∨ Rch E fx st r) (he : E r n) : PJ E fx st r (ns ++ [n]) (pst fx s n) := by
  have m1 := pst_1 (fx := fx) (s := s) (n := n)
  have up : ∀ x, (fx x = true ∨ x ∈ s.1) → (fx x = true ∨ x ∈ (pst fx s n).1) := fun x z => z.imp id fun z => (m1 x).mpr (.inl z)
  have hn : fx n = true ∨ n ∈ (pst fx s n).1 := by
    cases e : fx n with
    | true => exact .inl rfl
    | false => exact .inr ((m1 n).mpr (.inr ⟨rfl, e⟩))
  have two : ∀ x, x ∈ (pst fx s n).2 → x ∈ s.2 ∨ (x = n ∧ n ∈ (pst fx s n).1) := fun x => by
    unfold pst
    split
    · intro z
      rcases List.mem_append.mp z with z | z
      · exact .inl z
      · exact .inr ⟨by simpa using z, by simp⟩
    · exact fun z => .inl z
  have new2 : ∀ x, x ∈ (pst fx s n).1 → x ∉ s.1 → x ∈ (pst fx s n).2 := fun x => by
    unfold pst
    split
    · intro z nz
      rcases List.mem_append.mp z with z | z
      · exact absurd z nz
      · exact List.mem_append_right _ z
    · exact fun z nz => absurd z nz
  have old2 : ∀ x, x ∈ s.2 → x ∈ (pst fx s n).2 := fun x z => by
    unfold pst
    split
    · exact List.mem_append_left _ z
    · exact z
  refine ⟨?_, fun x hx => ?_, fun x hx => ?_, fun m hm nm nr x hx => ?_, fun x hx => ?_⟩
  · unfold pst
    split
    · rename_i h2
      simp only [Bool.and_eq_true, Bool.not_eq_true', decide_eq_false_iff_not] at h2
      exact List.nodup_append.mpr ⟨h.nd, by simp, fun a ha b hb e => by rw [List.mem_singleton] at hb; subst hb; subst e; exact h2.2 ha⟩
    · exact h.nd
  · rcases (m1 x).mp hx with z | ⟨rfl, z⟩
    · exact h.sound x z
    · rcases hr with hr | hr
      · exact .base hr he z
      · exact .step hr he z
  · rcases two x hx with z | ⟨rfl, z⟩
    · exact (h.left x z).imp id fun z => (m1 x).mpr (.inl z)
    · exact .inr z
  · refine up x (h.done m ?_ (fun z => nm (old2 m z)) nr x hx)
    rcases hm with hm | hm
    · exact .inl hm
    · by_cases z : m ∈ s.1
      · exact .inr z
      · exact absurd (new2 m hm z) nm
  · rcases List.mem_append.mp hx with z | z
    · exact up x (h.seen x z)
    · rw [List.mem_singleton] at z; subst z; exact hn
theorem pj_fold {E : Int → Int → Prop} {fx st : Int → Bool} {r : Int} (hr : st r = true ∨ Rch E fx st r) : ∀ (ns ds : List Int) (s : List Int × List Int), PJ E fx st r ds s → (∀ n ∈ ns, E r n) → PJ E fx st r (ds ++ ns) (ns.foldl (pst fx) s)
  | [], ds, s, h, _ => by rw [List.append_nil]; exact h
  | n :: ns, ds, s, h, he => by
    have := pj_fold hr ns (ds ++ [n]) (pst fx s n) (pj_step h hr (he n List.mem_cons_self)) fun x hx => he x (List.mem_cons_of_mem _ hx)
    rw [List.append_assoc] at this
    exact this
theorem pi_pex {L : Lk} {fx st : Int → Bool} {F S : List Int} {r : Int} (h : PI (fun m n => n ∈ nbL L m) fx st (F, S ++ [r])) : PI (fun m n => n ∈ nbL L m) fx st (pex fx L (F, S) r) := by
  have hr : st r = true ∨ Rch (fun m n => n ∈ nbL L m) fx st r := (h.left r (by simp)).imp id (h.sound r)
  have j0 : PJ (fun m n => n ∈ nbL L m) fx st r [] (F, S) := ⟨h.nd, h.sound, fun n hn => h.left n (List.mem_append_left _ hn), fun m hm nm nr n hn => h.done m hm (fun z => by
    rcases List.mem_append.mp z with z | z
    · exact nm z
    · exact nr (by simpa using z)) n hn, fun n hn => by simp at hn⟩
  have j1 := pj_fold hr (nbL L r) [] (F, S) j0 fun n hn => hn
  refine ⟨j1.nd, j1.sound, j1.left, fun m hm nm n hn => ?_⟩
  by_cases e : m = r
  · subst e; exact j1.seen n (by simpa using hn)
  · exact j1.done m hm nm e n hn
theorem pi_end {E : Int → Int → Prop} {fx st : Int → Bool} {F : List Int} (h : PI E fx st (F, [])) (n : Int) : n ∈ F ↔ Rch E fx st n := by
  refine ⟨h.sound n, fun r => ?_⟩
  induction r with
  | base a b c =>
    rcases h.done _ (.inl a) (by simp) _ b with z | z
    · rw [c] at z; cases z
    · exact z
  | step a b c ih =>
    rcases h.done _ (.inr ih) (by simp) _ b with z | z
    · rw [c] at z; cases z
    · exact z
theorem pi_start {E : Int → Int → Prop} {fx st : Int → Bool} {S : List Int} (h : ∀ n, st n = true → (∃ m, E n m) → n ∈ S) (h2 : ∀ n ∈ S, st n = true) : PI E fx st ([], S) :=
  ⟨by simp, fun n hn => by simp at hn, fun n hn => .inl (h2 n hn), fun m hm nm n hn => by
    rcases hm with hm | hm
    · exact absurd (h m hm ⟨n, hn⟩) nm
    · simp at hm⟩
/-- how much is left -/
def pmu (M : Nat) (s : List Int × List Int) : Nat := 2 * (M - s.1.length) + s.2.length
theorem pst_mu {fx : Int → Bool} {M : Nat} {s : List Int × List Int} {n : Int} (h : (pst fx s n).1.length ≤ M) : pmu M (pst fx s n) ≤ pmu M s := by
  unfold pst at h ⊢
  unfold pmu
  split
  · rename_i z
    rw [if_pos z] at h
    simp only [List.length_append, List.length_cons, List.length_nil] at h ⊢
    omega
  · exact Nat.le_refl _
theorem nodup_le : ∀ {U F : List Int}, F.Nodup → (∀ n ∈ F, n ∈ U) → F.length ≤ U.length
  | U, [], _, _ => Nat.zero_le _
  | U, n :: F, h, hu => by
    have h' := List.nodup_cons.mp h
    have hn := hu n List.mem_cons_self
    have := nodup_le (U := U.erase n) (F := F) h'.2 fun x hx => (List.mem_erase_of_ne fun e => h'.1 (by rw [← e]; exact hx)).mpr (hu x (List.mem_cons_of_mem _ hx))
    rw [List.length_erase_of_mem hn] at this
    have hp := List.length_pos_of_mem hn
    simp only [List.length_cons]
    omega
end DL
namespace DL
open PySem PySem.Spec PyProof.Rows L2
def kI (i : Int) : Key := Sum.inl i
def lkC (a : Addr) (ps : List Addr) (L : Lk) : Cs := (a, OC.dk (L.map fun p => kI p.1) (ps.map D.ad)) :: (ps.zip L).map fun q => (q.1, OC.lst (q.2.2.map D.int))
abbrev lkD (L : Lk) : D := .dk (L.map fun p => kI p.1) (L.map fun p => D.lst (p.2.map .int))
theorem lkC_fst {a : Addr} {ps : List Addr} {L : Lk} (h : ps.length = L.length) : (lkC a ps L).map (·.1) = a :: ps := by
  unfold lkC
  rw [List.map_cons, List.map_map]
  congr 1
  show (ps.zip L).map Prod.fst = ps
  exact List.map_fst_zip (by omega)
theorem addL_old : ∀ {L : Lk} {n : Nat} {y v : Int} {xs : List Int}, (keyK L).Nodup → L[n]? = some (y, xs) → addL L y v = L.set n (y, xs ++ [v])
  | [], n, y, v, xs, _, h => by simp at h
  | (b, zs) :: r, 0, y, v, xs, _, h => by
    simp only [List.getElem?_cons_zero, Option.some.injEq, Prod.mk.injEq] at h
    obtain ⟨rfl, rfl⟩ := h
    show (if b = b then _ else _) = _
    rw [if_pos rfl]; rfl
  | (b, zs) :: r, n + 1, y, v, xs, nd, h => by
    have h' : r[n]? = some (y, xs) := by simpa using h
    have nd' := List.nodup_cons.mp nd
    have ne : b ≠ y := fun e => nd'.1 (by rw [e]; exact List.mem_map.mpr ⟨_, List.mem_of_getElem? h', rfl⟩)
    show (if b = y then _ else _) = _
    rw [if_neg ne, addL_old nd'.2 h']; rfl
theorem addL_new : ∀ {L : Lk} {y v : Int}, y ∉ keyK L → addL L y v = L ++ [(y, [v])]
  | [], y, v, _ => rfl
  | (b, zs) :: r, y, v, h => by
    show (if b = y then _ else _) = _
    rw [if_neg fun e => h (by rw [← e]; exact List.mem_cons_self), addL_new fun m => h (List.mem_cons_of_mem _ m)]; rfl
theorem addL_len (L : Lk) (y v : Int) : (addL L y v).length ≤ L.length + 1 := by
  induction L with
  | nil => simp [addL]
  | cons p r ih =>
    obtain ⟨b, zs⟩ := p
    show (if b = y then _ else _ : Lk).length ≤ _
    split <;> simp <;> omega
theorem mem_kI {L : Lk} {y : Int} : (Sum.inl y : Key) ∈ L.map (fun p => kI p.1) ↔ y ∈ keyK L := by
  unfold keyK
  simp only [List.mem_map]
  exact ⟨fun ⟨p, h, e⟩ => ⟨p, h, by cases e; rfl⟩, fun ⟨p, h, e⟩ => ⟨p, h, by rw [← e]; rfl⟩⟩
theorem lkC_at {a : Addr} {ps : List Addr} {L : Lk} {n : Nat} {q : Addr} {y : Int} {xs : List Int} (h1 : ps[n]? = some q) (h2 : L[n]? = some (y, xs)) : (lkC a ps L)[n + 1]? = some (q, OC.lst (xs.map D.int)) := by
  unfold lkC
  rw [List.getElem?_cons_succ, List.getElem?_map, List.getElem?_zip_eq_some (z := (q, (y, xs))) |>.mpr ⟨h1, h2⟩]; rfl
theorem lkC_old {a : Addr} {ps : List Addr} {L : Lk} {n : Nat} {q : Addr} {y v : Int} {xs : List Int} (hl : ps.length = L.length) (nd : (a :: ps).Nodup) (nk : (keyK L).Nodup) (h1 : ps[n]? = some q) (h2 : L[n]? = some (y, xs)) : putC (lkC a ps L) q (.lst (xs.map D.int ++ [.int v])) = lkC a ps (addL L y v) := by
  rw [putC_set (by show (List.map _ _).Nodup; rw [lkC_fst hl]; exact nd) (lkC_at h1 h2), addL_old nk h2]
  unfold lkC
  have hn : n < L.length := (List.getElem?_eq_some_iff.mp h2).1
  have e1 : (L.set n (y, xs ++ [v])).map (fun p => kI p.1) = L.map (fun p => kI p.1) := by
    rw [List.map_set]
    refine List.ext_getElem? fun k => ?_
    rw [List.getElem?_set]
    by_cases e : n = k
    · subst e; rw [if_pos rfl, if_pos (by rw [List.length_map]; exact hn), List.getElem?_map, h2]; rfl
    · rw [if_neg e]
  rw [e1, List.set_cons_succ]
  congr 1
  refine List.ext_getElem? fun k => ?_
  rw [List.getElem?_set, List.getElem?_map, List.getElem?_map]
  by_cases e : n = k
  · subst e
    rw [if_pos rfl, if_pos (by rw [List.length_map, List.length_zip]; omega), List.getElem?_zip_eq_some (z := (q, (y, xs ++ [v]))) |>.mpr ⟨h1, by rw [List.getElem?_set_self hn]⟩]
    show _ = some (q, OC.lst ((xs ++ [v]).map D.int))
    rw [List.map_append]; rfl
  · rw [if_neg e]
    have e2 : (L.set n (y, xs ++ [v]))[k]? = L[k]? := by rw [List.getElem?_set, if_neg e]
    congr 1
    unfold List.zip
    rw [List.getElem?_zipWith', List.getElem?_zipWith', e2]
theorem lkC_new {a q : Addr} {ps : List Addr} {L : Lk} {y v : Int} (hl : ps.length = L.length) (nd : (a :: ps).Nodup) (hq : q ∉ a :: ps) (hy : y ∉ keyK L) :
    putC (putC (lkC a ps L ++ [(q, .lst [])]) a (.dk ((L.map fun p => kI p.1) ++ [Sum.inl y]) (ps.map D.ad ++ [.ad q]))) q (.lst ([] ++ [.int v])) = lkC a (ps ++ [q]) (addL L y v) := by
  have nd2 : ((lkC a ps L ++ [(q, OC.lst [])]).map (·.1)).Nodup := by
    rw [List.map_append, lkC_fst hl]
    exact List.nodup_append.mpr ⟨nd, by simp, fun x hx z hz e => by simp at hz; subst hz; subst e; exact hq hx⟩
  have e1 : putC (lkC a ps L ++ [(q, .lst [])]) a (.dk ((L.map fun p => kI p.1) ++ [Sum.inl y]) (ps.map D.ad ++ [.ad q])) = ((a, OC.dk ((L.map fun p => kI p.1) ++ [Sum.inl y]) (ps.map D.ad ++ [.ad q])) :: ((ps.zip L).map fun q => (q.1, OC.lst (q.2.2.map D.int))) ++ [(q, .lst [])]) := by
    unfold lkC at nd2 ⊢
    exact putC_hd (c := OC.dk (L.map fun p => kI p.1) (ps.map D.ad)) nd2
  rw [e1, addL_new hy]
  rw [putC_set (i := ps.length + 1) (c := .lst []) (by
    have := nd2
    unfold lkC at this
    exact this) (by
    rw [List.cons_append, List.getElem?_cons_succ, List.getElem?_append_right (by rw [List.length_map, List.length_zip]; omega)]
    rw [List.length_map, List.length_zip, show min ps.length L.length = ps.length by omega, Nat.sub_self]; rfl)]
  unfold lkC
  rw [List.cons_append, List.set_cons_succ, List.set_append_right _ _ (by rw [List.length_map, List.length_zip]; omega)]
  rw [List.length_map, List.length_zip, show min ps.length L.length = ps.length by omega, Nat.sub_self, List.zip_append hl, List.map_append, List.map_append, List.map_append]
  rfl
theorem lk_shown {K : PySem.W.Frag} {H : Hp} {a : Addr} {ps : List Addr} {L : Lk} (hl : ps.length = L.length) {v : V} (h : ∀ p ∈ lkC a ps L, DR K H p.2.d (.ref p.1)) (r : DR K H (.ad a) v) : DR K H (lkD L) v := by
  cases (show v = .ref a from r)
  obtain ⟨a', vs, e1, h1, h2, h3⟩ := h (a, OC.dk (L.map fun p => kI p.1) (ps.map D.ad)) (by unfold lkC; exact List.mem_cons_self)
  cases e1
  refine ⟨a, vs, rfl, h1, h2, ?_⟩
  have key : ∀ (ps : List Addr) (L : Lk) (vs : List V), ps.length = L.length → DRs K H (ps.map D.ad) vs → (∀ q ∈ ps.zip L, DR K H (.lst (q.2.2.map D.int)) (.ref q.1)) → DRs K H (L.map fun p => D.lst (p.2.map .int)) vs := by
    intro ps
    induction ps with
    | nil =>
      intro L vs hl r _
      cases L with
      | nil => exact r
      | cons _ _ => simp at hl
    | cons p ps ih =>
      intro L vs hl r hq
      cases L with
      | nil => simp at hl
      | cons e L =>
        obtain ⟨v, ws, rfl, q1, q2⟩ := r
        cases (show v = .ref p from q1)
        exact ⟨.ref p, ws, rfl, hq (p, e) (by simp), ih L ws (by simpa using hl) q2 fun q hm => hq q (by simp [hm])⟩
  exact key ps L vs hl h3 fun q hq => h (q.1, OC.lst (q.2.2.map D.int)) (by unfold lkC; exact List.mem_cons_of_mem _ (List.mem_map.mpr ⟨q, hq, rfl⟩))
theorem keyK_at {L : Lk} {n : Nat} {y : Int} (h : (L.map fun p => kI p.1)[n]? = some (Sum.inl y)) : ∃ xs, L[n]? = some (y, xs) := by
  rw [List.getElem?_map] at h
  cases e : L[n]? with
  | none => rw [e] at h; cases h
  | some p =>
    rw [e] at h
    obtain ⟨b, xs⟩ := p
    have h := Option.some.inj h
    have : b = y := by
      have h : kI b = Sum.inl y := h
      unfold kI at h; cases h; rfl
    exact ⟨xs, by rw [this]⟩
section
variable {X : Cx} {ρ : En} {pos : Pos} {Φ : Out → Prop}
/-- x.setdefault(e, []).append(f) -/
theorem ws_link (i : Nat) {x : Str} {p1 p2 p3 p4 p5 p6 : Pos} {a : Addr} {ps : List Addr} {L : Lk} {e f : Expr} {y v : Int} (hi : ρ[i]? = some (.ox (lkC a ps L) (.ad a))) (he : ED X ρ e (.int y)) (hf : ∀ cs', ED X (ρ.set i (.ox cs' (.ad a))) f (.int v)) (hl : ps.length = L.length) (nd : (a :: ps).Nodup) (nk : (keyK L).Nodup)
    (hb : L.length < sizeLine) (hbv : ∀ p ∈ L, p.2.length < sizeLine) (hN : X.N[i]? = some x) (hv : Vis X.env.scope x) (m : M2 X (.Name x p1) "setdefault" p2 e (.List [] p3) p4)
    (hpe : ∀ {to : TE} {ta : TA}, PE X (.Call (.Attribute (.Name x p1) "setdefault" p2) [e, .List [] p3] [] p4) to → PA X [f] ta → PS X (.Expr (.Call (.Attribute (.Call (.Attribute (.Name x p1) "setdefault" p2) [e, .List [] p3] [] p4) "append" p5) [f] [] p6) pos) (tDrop (tBM X.K "list" rAppend to ta)))
    (hΦ : ∀ ps', ps'.length = (addL L y v).length → (a :: ps').Nodup → Φ (.nx (ρ.set i (.ox (lkC a ps' (addL L y v)) (.ad a)))))
    (hs : starEach [f] X.env = (false, eval f X.env) :: starEach [] X.env := by rfl) (hd : (x == ("__debug__" : Str)) = false := by decide) (hcd : (x == ("__classdict__" : Str)) = false := by decide) :
    WS X (.Expr (.Call (.Attribute (.Call (.Attribute (.Name x p1) "setdefault" p2) [e, .List [] p3] [] p4) "append" p5) [f] [] p6) pos) ρ Φ := by
  have hlt : i < ρ.length := (List.getElem?_eq_some_iff.mp hi).1
  have same : ρ.set i (.ox (lkC a ps L) (.ad a)) = ρ := by
    refine List.ext_getElem? fun k => ?_
    rw [List.getElem?_set]
    by_cases e : i = k
    · subst e; rw [if_pos rfl, if_pos hlt, hi]
    · rw [if_neg e]
  refine ws_appendEP (ep_setdef (l := a) (ks := L.map fun p : Int × List Int => kI p.1) (ds := ps.map D.ad) (cs := (ps.zip L).map fun q : Addr × Int × List Int => (q.1, OC.lst (q.2.2.map D.int))) i hi he (by rw [List.length_map]; exact hb) m hN hv hd hcd) (fun d' ρ' w => ?_) hpe hs
  rcases w with ⟨n, h1, h2, rfl⟩ | ⟨h1, q, h2, rfl, rfl⟩
  · obtain ⟨xs, hx⟩ := keyK_at h1
    rw [List.getElem?_map] at h2
    cases hq : ps[n]? with
    | none => rw [hq] at h2; cases h2
    | some q =>
      rw [hq] at h2
      cases h2
      refine ⟨i, lkC a ps L, .ad a, q, xs.map D.int, .int v, rfl, hi, List.mem_of_getElem? (lkC_at hq hx), ?_, by rw [List.length_map]; exact hbv _ (List.mem_of_getElem? hx), ?_⟩
      · have := hf (lkC a ps L); rw [same] at this; exact this
      · rw [lkC_old hl nd nk hq hx]
        exact hΦ ps (by rw [addL_old nk hx, List.length_set]; exact hl) nd
  · have h1' : y ∉ keyK L := fun z => h1 (mem_kI.mpr z)
    have hq : q ∉ a :: ps := by
      have : q ∉ (lkC a ps L).map (·.1) := h2
      rw [lkC_fst hl] at this; exact this
    refine ⟨i, _, .ad a, q, [], .int v, rfl, by rw [List.getElem?_set_self hlt], ?_, hf _, by rw [sizeLine_eq]; decide, ?_⟩
    · refine List.mem_map.mpr ⟨(q, .lst []), List.mem_append_right _ (by simp), ?_⟩
      show (if q = a then _ else _) = _
      rw [if_neg fun e => hq (by rw [e]; exact List.mem_cons_self)]
    · rw [List.set_set]
      have e2 := lkC_new (v := v) hl nd hq h1'
      refine Eq.mpr (congrArg (fun c => Φ (.nx (ρ.set i (.ox c (.ad a))))) e2) ?_
      exact hΦ (ps ++ [q]) (by rw [addL_new h1', List.length_append, List.length_append, hl]; rfl) (by
        rw [← List.cons_append]
        exact List.nodup_append.mpr ⟨nd, by simp, fun z hz b hb e => by simp at hb; subst hb; subst e; exact hq hz⟩)
end
def vlS (vals : Str) (g : Int) : Str := ⟨#[vals.cps.toList.getD g.toNat 0]⟩
theorem vl_at {vals : Str} {g : Int} {n : Int} (h0 : 0 ≤ g) (h1 : g < n) (hl : (vals.cps.toList.length : Int) = n) : atI vals.cps.toList g = some (vals.cps.toList.getD g.toNat 0) := by
  have hg : g.toNat < vals.cps.toList.length := by omega
  have := atI_nat (xs := vals.cps.toList) (j := g.toNat) (v := vals.cps.toList.getD g.toNat 0) (by rw [List.getD_eq_getElem?_getD, List.getElem?_eq_getElem hg]; rfl)
  rwa [show ((g.toNat : Nat) : Int) = g by omega] at this
def cdB (cs : List Str) (vals : Str) (v : Dev) : Bool := decide (v.k ++ vlS vals v.g ∈ cs)
theorem kd_len {n : Int} {v : Dev} (h : DevOk n v) : v.k.length ≤ 1 := by
  rcases h.k with e | e <;> rw [e] <;> decide +kernel
theorem one_len (c : Nat) : (⟨#[c]⟩ : Str).length = 1 := rfl
theorem addL_bd {L : Lk} {y v : Int} {m : Nat} (h : ∀ p ∈ L, p.2.length ≤ m) : ∀ p ∈ addL L y v, p.2.length ≤ m + 1 := by
  induction L with
  | nil => intro p hp; have hp : p ∈ [(y, [v])] := hp; simp at hp; subst hp; simp
  | cons q r ih =>
    obtain ⟨b, zs⟩ := q
    intro p hp
    have hp : p ∈ (if b = y then (b, zs ++ [v]) :: r else (b, zs) :: addL r y v) := hp
    have hz := h (b, zs) List.mem_cons_self
    split at hp
    · rcases List.mem_cons.mp hp with e | e
      · subst e; show (zs ++ [v]).length ≤ _; rw [List.length_append]; simp only [List.length_cons, List.length_nil]; have : zs.length ≤ m := hz; omega
      · have := h p (List.mem_cons_of_mem _ e); omega
    · rcases List.mem_cons.mp hp with e | e
      · subst e; have : zs.length ≤ m := hz; show zs.length ≤ _; omega
      · exact ih (fun z hz => h z (List.mem_cons_of_mem _ hz)) p e
theorem lnk_bd (p : Dev → Bool) : ∀ (V : List Dev), (lnkL p V).length ≤ 2 * V.length ∧ ∀ q ∈ lnkL p V, q.2.length ≤ 2 * V.length := by
  refine snoc_ind (P := fun V => (lnkL p V).length ≤ 2 * V.length ∧ ∀ q ∈ lnkL p V, q.2.length ≤ 2 * V.length) ⟨by simp [lnkL], fun q h => by simp [lnkL] at h⟩ fun V v ih => ?_
  rw [lnkL_snoc]
  unfold lnkS
  have e : 2 * (V ++ [v]).length = 2 * V.length + 1 + 1 := by rw [List.length_append]; simp; omega
  rw [e]
  split
  · refine ⟨?_, addL_bd (addL_bd ih.2)⟩
    have h1 := addL_len (lnkL p V) v.a v.b
    have h2 := addL_len (addL (lnkL p V) v.a v.b) v.b v.a
    have := ih.1
    omega
  · exact ⟨by have := ih.1; omega, fun q hq => by have := ih.2 q hq; omega⟩
end DL
namespace DL
open PySem PySem.Spec PyProof.Rows L2
abbrev Fx := List (Int × Str)
def fxK (P : Fx) : List Key := P.map fun p => kI p.1
abbrev fxD (P : Fx) : D := .dk (fxK P) (P.map fun p => .str p.2)
def fxB (P : Fx) (n : Int) : Bool := hasK (fxK P) (kI n)
def fvS (P : Fx) (n : Int) : Str := ((P.find? fun p => decide (p.1 = n)).map (·.2)).getD ""
def stB (P : Fx) (pl : List Str) (n : Int) : Bool := fxB P n && decide (fvS P n ∈ pl)
theorem kI_inj {a b : Int} (h : kI a = kI b) : a = b := by unfold kI at h; cases h; rfl
theorem fx_look {n : Int} : ∀ {P : Fx}, fxB P n = true → lookK (fxK P) (P.map fun p => D.str p.2) (kI n) = some (.str (fvS P n))
  | [], h => by cases h
  | p :: P, h => by
    show lookK (kI p.1 :: fxK P) (.str p.2 :: P.map fun p => D.str p.2) (kI n) = _
    unfold lookK
    by_cases e : p.1 = n
    · rw [if_pos (by rw [e])]
      unfold fvS; rw [List.find?_cons, decide_eq_true e]; rfl
    · rw [if_neg fun z => e (kI_inj z)]
      have h' : fxB P n = true := by
        unfold fxB at h ⊢
        rw [hasK_iff] at h ⊢
        rcases List.mem_cons.mp h with z | z
        · exact absurd (kI_inj z).symm e
        · exact z
      have := fx_look h'
      rw [this]
      unfold fvS; rw [List.find?_cons, decide_eq_false e]
theorem nb_look {m : Int} : ∀ {L : Lk}, m ∈ keyK L → lookK (L.map fun p => kI p.1) (L.map fun p => D.lst (p.2.map .int)) (kI m) = some (.lst ((nbL L m).map .int))
  | [], h => by simp [keyK] at h
  | (a, xs) :: L, h => by
    show lookK (kI a :: L.map fun p => kI p.1) (.lst (xs.map .int) :: L.map fun p => D.lst (p.2.map .int)) (kI m) = _
    unfold lookK
    by_cases e : a = m
    · rw [if_pos (by rw [e])]
      show _ = some (D.lst ((if a = m then xs else nbL L m).map .int))
      rw [if_pos e]
    · rw [if_neg fun z => e (kI_inj z)]
      rcases List.mem_cons.mp h with z | z
      · exact absurd z.symm e
      · rw [nb_look z]
        show _ = some (D.lst ((if a = m then xs else nbL L m).map .int))
        rw [if_neg e]
theorem pst_nd {fx : Int → Bool} {s : List Int × List Int} {n : Int} (h : s.1.Nodup) : (pst fx s n).1.Nodup := by
  unfold pst
  split
  · rename_i h2
    simp only [Bool.and_eq_true, Bool.not_eq_true', decide_eq_false_iff_not] at h2
    exact List.nodup_append.mpr ⟨h, by simp, fun a ha b hb e => by rw [List.mem_singleton] at hb; subst hb; subst e; exact h2.2 ha⟩
  · exact h
theorem fold_mu {fx : Int → Bool} {U : List Int} : ∀ (ns : List Int) (s : List Int × List Int), s.1.Nodup → (∀ x ∈ s.1, x ∈ U) → (∀ n ∈ ns, n ∈ U) → pmu U.length (ns.foldl (pst fx) s) ≤ pmu U.length s ∧ (ns.foldl (pst fx) s).1.Nodup ∧ (∀ x ∈ (ns.foldl (pst fx) s).1, x ∈ U)
  | [], s, h1, h2, _ => ⟨Nat.le_refl _, h1, h2⟩
  | n :: ns, s, h1, h2, h3 => by
    have nd := pst_nd (fx := fx) (n := n) h1
    have inU : ∀ x ∈ (pst fx s n).1, x ∈ U := fun x hx => by
      rcases (pst_1 x).mp hx with z | ⟨rfl, _⟩
      · exact h2 x z
      · exact h3 _ List.mem_cons_self
    obtain ⟨a, b, c⟩ := fold_mu ns (pst fx s n) nd inU fun x hx => h3 x (List.mem_cons_of_mem _ hx)
    exact ⟨Nat.le_trans a (pst_mu (nodup_le nd inU)), b, c⟩
/-- found and left, within the nets U, and what is left to do fits in k -/
structure PU (L : Lk) (fx st : Int → Bool) (U : List Int) (s : List Int × List Int) : Prop where
  pi : PI (fun m n => n ∈ nbL L m) fx st s
  u1 : ∀ x ∈ s.1, x ∈ U
  u2 : ∀ x ∈ s.2, x ∈ U
theorem pst_2 {fx : Int → Bool} {s : List Int × List Int} {n : Int} : ∀ x, x ∈ (pst fx s n).2 → x ∈ s.2 ∨ x = n := fun x => by
  unfold pst
  split
  · intro z
    rcases List.mem_append.mp z with z | z
    · exact .inl z
    · exact .inr (by simpa using z)
  · exact fun z => .inl z
theorem fold_2 {fx : Int → Bool} {U : List Int} : ∀ (ns : List Int) (s : List Int × List Int), (∀ x ∈ s.2, x ∈ U) → (∀ n ∈ ns, n ∈ U) → ∀ x ∈ (ns.foldl (pst fx) s).2, x ∈ U
  | [], s, h, _ => h
  | n :: ns, s, h, h3 => fold_2 ns (pst fx s n) (fun x hx => by
    rcases pst_2 x hx with z | rfl
    · exact h x z
    · exact h3 _ List.mem_cons_self) fun x hx => h3 x (List.mem_cons_of_mem _ hx)
theorem pu_pex {L : Lk} {fx st : Int → Bool} {U F S : List Int} {r : Int} (hL : ∀ m n, n ∈ nbL L m → n ∈ U) (h : PU L fx st U (F, S ++ [r])) : PU L fx st U (pex fx L (F, S) r) ∧ pmu U.length (pex fx L (F, S) r) < pmu U.length (F, S ++ [r]) := by
  obtain ⟨a, b, c⟩ := fold_mu (fx := fx) (U := U) (nbL L r) (F, S) h.pi.nd h.u1 fun n hn => hL r n hn
  refine ⟨⟨pi_pex h.pi, c, fold_2 _ _ (fun x hx => h.u2 x (List.mem_append_left _ hx)) fun n hn => hL r n hn⟩, ?_⟩
  have : pmu U.length (F, S) < pmu U.length (F, S ++ [r]) := by unfold pmu; simp only [List.length_append, List.length_cons, List.length_nil]; omega
  exact Nat.lt_of_le_of_lt a this
theorem prun_nil (fx : Int → Bool) (L : Lk) (k : Nat) (F : List Int) : prun fx L k (F, []) = F := by cases k <;> rfl
theorem prun_snoc (fx : Int → Bool) (L : Lk) (k : Nat) (F S : List Int) (r : Int) : prun fx L (k + 1) (F, S ++ [r]) = prun fx L k (pex fx L (F, S) r) := by
  show (match (S ++ [r]).getLast? with | none => F | some r' => prun fx L k (pex fx L (F, (S ++ [r]).dropLast) r')) = _
  rw [List.getLast?_concat, List.dropLast_concat]
theorem prun_end {L : Lk} {fx st : Int → Bool} {U : List Int} (hL : ∀ m n, n ∈ nbL L m → n ∈ U) : ∀ (k : Nat) (s : List Int × List Int), PU L fx st U s → pmu U.length s ≤ k → PU L fx st U (prun fx L k s, [])
  | 0, (F, S), h, hk => by
    have : S = [] := by
      cases S with
      | nil => rfl
      | cons _ _ => unfold pmu at hk; simp at hk
    subst this; exact h
  | k + 1, (F, S), h, hk => by
    rcases List.eq_nil_or_concat S with e | ⟨S', r, e⟩
    · subst e; rw [prun_nil]; exact h
    · subst e
      rw [List.concat_eq_append] at h hk ⊢
      rw [prun_snoc]
      obtain ⟨h1, h2⟩ := pu_pex hL h
      exact prun_end hL k _ h1 (by omega)
def pulL (P : Fx) (L : Lk) (pl : List Str) : List Int := prun (fxB P) L (2 * (keyK L).length + L.length) ([], (keyK L).filter (stB P pl))
/-- what is linked stands in the links too -/
def LkOk (L : Lk) : Prop := (keyK L).Nodup ∧ ∀ m n, n ∈ nbL L m → n ∈ keyK L
section
variable {P : Fx} {L : Lk} {pl : List Str}
theorem pul_start : PU L (fxB P) (stB P pl) (keyK L) ([], (keyK L).filter (stB P pl)) := by
  refine ⟨pi_start (fun n h1 h2 => List.mem_filter.mpr ⟨?_, h1⟩) fun n hn => (List.mem_filter.mp hn).2, fun x hx => by simp at hx, fun x hx => (List.mem_filter.mp hx).1⟩
  obtain ⟨m, h2⟩ := h2
  cases z : decide (n ∈ keyK L) with
  | true => exact of_decide_eq_true z
  | false =>
    have h2 : m ∈ nbL L n := h2
    rw [nbL_mem (of_decide_eq_false z)] at h2
    cases h2
theorem pul_mu : pmu (keyK L).length ([], (keyK L).filter (stB P pl)) ≤ 2 * (keyK L).length + L.length := by
  unfold pmu
  have := List.length_filter_le (stB P pl) (keyK L)
  have e : (keyK L).length = L.length := List.length_map ..
  simp only [List.length_nil]
  omega
theorem pul_pu (hL : LkOk L) : PU L (fxB P) (stB P pl) (keyK L) (pulL P L pl, []) := prun_end hL.2 _ _ pul_start pul_mu
theorem pul_mem (hL : LkOk L) (n : Int) : n ∈ pulL P L pl ↔ Rch (fun m n => n ∈ nbL L m) (fxB P) (stB P pl) n := pi_end (pul_pu hL).pi n
theorem pul_in (hL : LkOk L) : (pulL P L pl).Nodup ∧ ∀ n ∈ pulL P L pl, n ∈ keyK L := ⟨(pul_pu hL).pi.nd, (pul_pu hL).u1⟩
end
/-- a state of the while: what it comes to is fixed -/
structure PRun (P : Fx) (L : Lk) (pl : List Str) (s : List Int × List Int) : Prop where
  pu : PU L (fxB P) (stB P pl) (keyK L) s
  run : ∃ k, pmu (keyK L).length s ≤ k ∧ prun (fxB P) L k s = pulL P L pl
  few : pmu (keyK L).length s ≤ 2 * (keyK L).length + L.length
section
variable {P : Fx} {L : Lk} {pl : List Str}
theorem pw_start : PRun P L pl ([], (keyK L).filter (stB P pl)) := ⟨pul_start, ⟨_, pul_mu, rfl⟩, pul_mu⟩
theorem pw_step {F S : List Int} {r : Int} (hL : LkOk L) (h : PRun P L pl (F, S ++ [r])) : PRun P L pl (pex (fxB P) L (F, S) r) ∧ pmu (keyK L).length (pex (fxB P) L (F, S) r) < pmu (keyK L).length (F, S ++ [r]) := by
  obtain ⟨h1, h2⟩ := pu_pex hL.2 h.pu
  obtain ⟨k, hk, e⟩ := h.run
  cases k with
  | zero => omega
  | succ k =>
    rw [prun_snoc] at e
    exact ⟨⟨h1, ⟨k, by omega, e⟩, by have := h.few; omega⟩, h2⟩
theorem pw_end {F : List Int} (h : PRun P L pl (F, [])) : F = pulL P L pl := by
  obtain ⟨k, _, e⟩ := h.run
  rw [prun_nil] at e; exact e
end
theorem pw_fold {P : Fx} {L : Lk} {pl : List Str} {F S : List Int} {r : Int} (hL : LkOk L) (h : PRun P L pl (F, S ++ [r])) (i : Nat) : (((nbL L r).take i).foldl (pst (fxB P)) (F, S)).1.length ≤ L.length ∧ (((nbL L r).take i).foldl (pst (fxB P)) (F, S)).2.length ≤ 3 * L.length := by
  obtain ⟨a, b, c⟩ := fold_mu (fx := fxB P) (U := keyK L) ((nbL L r).take i) (F, S) h.pu.pi.nd h.pu.u1 fun n hn => hL.2 r n (List.mem_of_mem_take hn)
  have e : (keyK L).length = L.length := List.length_map ..
  have h1 := nodup_le b c
  have h2 := h.few
  unfold pmu at a h2
  simp only [List.length_append, List.length_cons, List.length_nil] at a h2
  exact ⟨by omega, by omega⟩
theorem hasK_map {xs : List Int} {m : Int} : hasK (xs.map kI) (kI m) = decide (m ∈ xs) := by
  by_cases h : m ∈ xs
  · rw [decide_eq_true h, hasK_iff]; exact List.mem_map.mpr ⟨m, h, rfl⟩
  · rw [decide_eq_false h]
    cases e : hasK (xs.map kI) (kI m) with
    | false => rfl
    | true =>
      obtain ⟨z, hz, e2⟩ := List.mem_map.mp (hasK_iff.mp e)
      exact absurd (kI_inj e2 ▸ hz) h
theorem pst_eq {P : Fx} {s : List Int × List Int} {m : Int} : pst (fxB P) s m = if (!hasK (fxK P) (kI m) && !hasK (s.1.map kI) (kI m)) = true then (s.1 ++ [m], s.2 ++ [m]) else s := by
  rw [hasK_map]; rfl
theorem pst_yes {P : Fx} {s : List Int × List Int} {m : Int} (h : (!hasK (fxK P) (kI m) && !hasK (s.1.map kI) (kI m)) = true) : pst (fxB P) s m = (s.1 ++ [m], s.2 ++ [m]) ∧ kI m ∉ s.1.map kI := by
  refine ⟨by rw [pst_eq, if_pos h], fun z => ?_⟩
  rw [hasK_iff.mpr z] at h
  simp at h
theorem pst_no {P : Fx} {s : List Int × List Int} {m : Int} (h : (!hasK (fxK P) (kI m) && !hasK (s.1.map kI) (kI m)) = false) : pst (fxB P) s m = s := by
  rw [pst_eq, if_neg (by rw [h]; decide)]
def lftP (P : Fx) (pl : List Str) : Key → Bool
  | .inl m => stB P pl m
  | .inr _ => false
theorem lft_eq {P : Fx} {L : Lk} {pl : List Str} : (((L.map fun p => kI p.1).filter (lftP P pl)).map kD) = ((keyK L).filter (stB P pl)).map D.int := by
  induction L with
  | nil => rfl
  | cons p L ih =>
    obtain ⟨a, xs⟩ := p
    show (((kI a :: L.map fun p => kI p.1).filter _).map kD) = ((a :: keyK L).filter _).map D.int
    rw [List.filter_cons, List.filter_cons]
    by_cases h : stB P pl a = true
    · rw [if_pos h, if_pos (show lftP P pl (kI a) = true from h), List.map_cons, List.map_cons, ih]; rfl
    · rw [if_neg h, if_neg (show ¬ lftP P pl (kI a) = true from h), ih]
theorem lnk_ok (p : Dev → Bool) (V : List Dev) : LkOk (lnkL p V) := by
  refine ⟨(lnk_keys p V).1, fun m n h => ?_⟩
  obtain ⟨v, hv, hp, hl⟩ := (nbL_lnk p V m n).mp h
  cases z : decide (n ∈ keyK (lnkL p V)) with
  | true => exact of_decide_eq_true z
  | false =>
    have e := nbL_mem (of_decide_eq_false z)
    have : m ∈ nbL (lnkL p V) n := (nbL_lnk p V n m).mpr ⟨v, hv, hp, hl.symm.imp (fun h => ⟨h.2, h.1⟩) fun h => ⟨h.2, h.1⟩⟩
    rw [e] at this; cases this
end DL
namespace DL
open PySem PySem.Spec PyProof.Rows L2
section
variable {X : Cx}
theorem pairs_all {pins : List (Addr × Obj)} {σ : L2.St} {H : Hp} {s : Shared} (I : L2.Inv X pins σ H s) {ps : List Addr} {kvs : List (Key × V)} (hp : Paired (fun p (kv : Key × V) => SqT X.K H p [kV kv.1, kv.2]) ps kvs) :
    ∃ (prs : List (Key × Value)) (us : List (Value × Value)), KV kvs prs ∧ prs.length = ps.length ∧ us.length = prs.length ∧ ∀ (i : Nat) (k v : Value), us[i]? = some (k, v) → ∃ (b : Addr) (q' : Key × Value), ps[i]? = some b ∧ prs[i]? = some q' ∧ q'.2 = v ∧ IsTup s.heap b #[k, v] ∧ (mixKind X.prog X.w).is q'.1 k = true := by
  obtain ⟨prs, rel, hl, hpr⟩ := L2.pairs_of I hp
  have ex : ∀ i : Nat, ∃ x : Value × Value, i < prs.length → ∃ (b : Addr) (q' : Key × Value), ps[i]? = some b ∧ prs[i]? = some q' ∧ q'.2 = x.2 ∧ IsTup s.heap b #[x.1, x.2] ∧ (mixKind X.prog X.w).is q'.1 x.1 = true := fun i => by
    by_cases h : i < prs.length
    · obtain ⟨b, u, e1, e2, e3⟩ := hpr i prs[i] (by simp [h])
      exact ⟨(u, prs[i].2), fun _ => ⟨b, prs[i], e1, by simp [h], rfl, e2, e3⟩⟩
    · exact ⟨(.none, .none), fun z => absurd z h⟩
  obtain ⟨f, hf⟩ := Classical.axiomOfChoice ex
  refine ⟨prs, (List.range prs.length).map f, rel, hl, by simp, fun i k v hi => ?_⟩
  have hlt : i < prs.length := by have := (List.getElem?_eq_some_iff.mp hi).1; simpa using this
  have e : f i = (k, v) := by
    simp [List.getElem?_map, List.getElem?_range hlt] at hi
    exact hi
  obtain ⟨b, q', e1, e2, e3, e4, e5⟩ := hf i hlt
  rw [e] at e3 e4 e5
  exact ⟨b, q', e1, e2, e3, e4, e5⟩
theorem call_dictL (hcalm : X.calm = true) : CallR X (.type "dict") (fun xs H Q => ∃ (a : Addr) (ps : List Addr) (kvs : List (Key × V)), xs = [.ref a] ∧ SqL X.K H a (ps.map V.ref) ∧ Paired (fun p kv => SqT X.K H p [kV kv.1, kv.2]) ps kvs ∧
    ∀ p, H p = none → Q (.ref p) (upd H p (.dK (mergeK [] kvs)))) := by
  intro pins s σ H xs us Q I r q
  obtain ⟨a, ps, kvs, ex, hq, hp, q⟩ := q
  subst ex
  obtain ⟨u, eu, rx⟩ := vals1 r
  subst eu
  cases rx
  obtain ⟨its, rv, pl, hz⟩ := I.list hq
  have ei := refs_at rv
  subst ei
  rw [List.length_map] at hz
  obtain ⟨prs, us, rel, hl, hul, hus⟩ := pairs_all I hp
  have hps : us.length = ps.length := by rw [hul, hl]
  refine PySem.call_dict_pairs (knd := mixKind X.prog X.w) (kvs := prs) (PairArg.list a (ps.map Value.ref).toArray (fun i => ps.getD i 0) us) (I.ok.hd hcalm) ⟨pl, by simp [hps], fun i k v hi => ?_⟩ ⟨hul.symm, fun i k v hi => ?_⟩ (by rw [hps]; exact hz) fun h' tk hd' k => ?_
  · obtain ⟨b, q', e1, e2, e3, e4, e5⟩ := hus i k v hi
    refine ⟨by simp [e1], .inl ?_⟩
    show s.heap.IsTuple (ps.getD i 0) #[k, v]
    rw [show ps.getD i 0 = b by simp [List.getD_eq_getElem?_getD, e1]]
    obtain ⟨ot, h1, h2, n2, h3⟩ := e4
    exact ⟨ot, h1, h2, n2, h3⟩
  · obtain ⟨b, q', e1, e2, e3, e4, e5⟩ := hus i k v hi
    exact ⟨q'.1, by rw [e2, ← e3], e5⟩
  · have hm : (s.heap.objs.size == sysModules) = false := beq_eq_false_iff_ne.mpr (Nat.ne_of_gt I.big)
    have hlen : (mergeK [] kvs).length ≤ sizeLine := by
      refine Nat.le_trans (length_mergeK kvs []) ?_
      rw [List.length_nil, Nat.zero_add, rel.length, hl]
      exact hz
    exact ⟨.ref s.heap.objs.size, upd H s.heap.objs.size (.dK (mergeK [] kvs)), I.laid (t' := tk) (fun b o e => k b o (by simp) e) (Nat.le_refl _) (show ObjOk X.prog X.w _ _ _ (.dK (mergeK [] kvs)) from ⟨hlen, hm, merged [] prs, KV.merge rel .nil, hd'⟩), rfl, q _ (I.hok.fresh (Nat.le_refl _))⟩
end
section
variable {X : Cx} {ρ : En} {pos : Pos}
/-- dict(xs), xs a list of pairs, the keys each once -/
theorem eo_dictL {e : Expr} {p : Pos} {kds : List (Key × D)} (hc : X.calm = true) (ht : Gl X "dict") (hmt : X.mg "dict" = none) (nd : (kds.map (·.1)).Nodup) (he : ED X ρ e (.lst (kds.map prD)))
    (h1 : starEach [e] X.env = (false, eval e X.env) :: starEach [] X.env := by rfl) (h2 : (backTo pos (starEach [] X.env)).any (·.1) = false := by rfl) :
    EO X ρ (.Call (.Name "dict" p) [e] [] pos) (.dk (kds.map (·.1)) (kds.map (·.2))) := fun B0 B σ H0 H Q j k => by
  refine RE.of (pe_callTy (call_dictL hc) ht hmt bb_dict (pa_cons pe_star pa_nil h1) (by decide) (by decide) h1 h2) (he B0 B σ H0 H _ j fun v G0 G g r => ?_)
  obtain ⟨a, vs, rfl, hS, rr⟩ := r
  obtain ⟨ps, ws, rfl, hl, hp, hd⟩ := prs_of rr
  have hfst : ((kds.map (·.1)).zip ws).map (·.1) = kds.map (·.1) := List.map_fst_zip (by simp [hl])
  refine ⟨a, ps, (kds.map (·.1)).zip ws, rfl, g.sh.seq hS, Paired.mono (fun p kv h => Same.seqT g.sh h) hp, fun p hp => ?_⟩
  rw [mergeK_new (acc := []) (by rw [List.nil_append, hfst]; exact nd), List.nil_append]
  exact k p _ G0 _ (g.trans (JH.own g.sh hp)) upd_same (g.sh.free hp) (g.sB.free hp) ⟨ws, rfl, by simp [hl], hd⟩
end
end DL
namespace DL
open PySem PySem.Spec PyProof.Rows L2
def sureS : List Str := ["n1", "p0"]
def perhS : List Str := ["n1", "nx", "p0", "px"]
section
variable (P : Fx) (V : List Dev) (vals : Str)
def lkS : Lk := lnkL (cdB sureS vals) V
def lkP : Lk := lnkL (cdB perhS vals) V
def conP (o : Str) : List Int := pulL P (lkP V vals) [o, "x"]
def surP (v : Str) : List Int := pulL P (lkS V vals) [v]
def knF (q : Str × Str) (xs : List Int) : Fx := (xs.filter fun n => !decide (n ∈ conP P V vals q.2)).map fun n => (n, q.1)
def knQ (q : Str × Str) : Fx := knF P V vals q (surP P V vals q.1)
def twoQ : List (Str × Str) := [("0", "1"), ("1", "0")]
def knI (i : Nat) : Fx := ((twoQ.take i).map (knQ P V vals)).flatten
def knw : Fx := knI P V vals 2
end
section
variable {P : Fx} {V : List Dev} {vals : Str}
theorem sure_perh {v : Dev} (h : cdB sureS vals v = true) : cdB perhS vals v = true := by
  unfold cdB at h ⊢
  have h := of_decide_eq_true h
  refine decide_eq_true ?_
  simp only [sureS, perhS, List.mem_cons, List.not_mem_nil, or_false] at h ⊢
  rcases h with h | h
  · exact .inl h
  · exact .inr (.inr (.inl h))
theorem nb_sp {m n : Int} (h : n ∈ nbL (lkS V vals) m) : n ∈ nbL (lkP V vals) m := by
  obtain ⟨v, hv, hp, hl⟩ := (nbL_lnk _ V m n).mp h
  exact (nbL_lnk _ V m n).mpr ⟨v, hv, sure_perh hp, hl⟩
theorem sur_con {n : Int} {v : Str} (h : n ∈ surP P V vals v) : n ∈ conP P V vals v := by
  unfold surP lkS at h; unfold conP lkP
  rw [pul_mem (lnk_ok _ _)] at h ⊢
  refine h.mono (fun m n z => nb_sp z) fun m z => ?_
  unfold stB at z ⊢
  rw [Bool.and_eq_true] at z ⊢
  refine ⟨z.1, ?_⟩
  have := of_decide_eq_true z.2
  exact decide_eq_true (by simp only [List.mem_cons, List.not_mem_nil, or_false] at this ⊢; exact .inl this)
theorem knI_1 (i : Nat) {q : Str × Str} (h : twoQ[i]? = some q) : knI P V vals (i + 1) = knI P V vals i ++ knQ P V vals q := by
  unfold knI
  rw [List.take_add_one, h]
  simp only [Option.toList, List.map_append, List.flatten_append, List.map_cons, List.map_nil, List.flatten_cons, List.flatten_nil, List.append_nil]
/-- what is asked in one turn: new -/
theorem kn_new {i : Nat} {q : Str × Str} (h : twoQ[i]? = some q) {j : Nat} {n : Int} (hn : (surP P V vals q.1)[j]? = some n) (hc : n ∉ conP P V vals q.2) : kI n ∉ fxK (knI P V vals i ++ knF P V vals q ((surP P V vals q.1).take j)) := fun m => by
  obtain ⟨p, hp, e⟩ := List.mem_map.mp m
  have e := kI_inj e
  rcases List.mem_append.mp hp with hp | hp
  · have key : ∀ (q' : Str × Str), p ∈ knQ P V vals q' → n ∈ surP P V vals q'.1 ∧ n ∉ conP P V vals q'.2 := fun q' hq => by
      obtain ⟨z, hz, e2⟩ := List.mem_map.mp hq
      have hz := List.mem_filter.mp hz
      have : z = n := by rw [← e, ← e2]
      subst this
      exact ⟨hz.1, by simpa using hz.2⟩
    match i, h with
    | 0, h => simp [knI] at hp
    | 1, h =>
      have hq : q = (("1" : Str), ("0" : Str)) := by
        have : twoQ[1]? = some (("1" : Str), ("0" : Str)) := rfl
        rw [this] at h; exact (Option.some.inj h).symm
      have hp : p ∈ knQ P V vals ("0", "1") := by
        have e3 : knI P V vals 1 = [] ++ knQ P V vals ("0", "1") := knI_1 (P := P) (V := V) (vals := vals) 0 rfl
        rw [e3] at hp; simpa using hp
      have := (key _ hp).2
      rw [hq] at hn
      exact this (sur_con (List.mem_of_getElem? hn))
    | k + 2, h => simp [twoQ] at h
  · obtain ⟨z, hz, e2⟩ := List.mem_map.mp hp
    have hz := (List.mem_filter.mp hz).1
    have : z = n := by rw [← e, ← e2]
    subst this
    obtain ⟨k, hk⟩ := List.getElem?_of_mem hz
    have hlt : k < j := by
      have := (List.getElem?_eq_some_iff.mp hk).1
      rw [List.length_take] at this; omega
    rw [List.getElem?_take_of_lt hlt] at hk
    have nd := (pul_in (P := P) (pl := [q.1]) (lnk_ok (cdB sureS vals) V)).1
    have := (List.getElem?_inj (List.getElem?_eq_some_iff.mp hk).1 nd).mp (hk.trans hn.symm)
    omega
theorem knF_snoc {q : Str × Str} {xs : List Int} {n : Int} : knF P V vals q (xs ++ [n]) = if (!decide (n ∈ conP P V vals q.2)) = true then knF P V vals q xs ++ [(n, q.1)] else knF P V vals q xs := by
  unfold knF
  rw [List.filter_append, List.filter_cons]
  split
  · rw [List.map_append]; rfl
  · rw [List.filter_nil, List.append_nil]
theorem pul_few {p : Dev → Bool} {pl : List Str} : (pulL P (lnkL p V) pl).length ≤ 2 * V.length := by
  have h := pul_in (P := P) (pl := pl) (lnk_ok p V)
  have := nodup_le h.1 h.2
  rw [show (keyK (lnkL p V)).length = (lnkL p V).length from List.length_map ..] at this
  exact Nat.le_trans this (lnk_bd p V).1
theorem knF_len {q : Str × Str} {xs : List Int} : (knF P V vals q xs).length ≤ xs.length := by
  unfold knF
  rw [List.length_map]
  exact List.length_filter_le ..
theorem knI_len (i : Nat) : (knI P V vals i).length ≤ 4 * V.length := by
  have h1 : (knQ P V vals ("0", "1")).length ≤ 2 * V.length := Nat.le_trans knF_len pul_few
  have h2 : (knQ P V vals ("1", "0")).length ≤ 2 * V.length := Nat.le_trans knF_len pul_few
  match i with
  | 0 => simp [knI]
  | 1 =>
    have e3 : knI P V vals 1 = [] ++ knQ P V vals ("0", "1") := knI_1 (P := P) (V := V) (vals := vals) 0 rfl
    rw [e3, List.nil_append]; omega
  | k + 2 =>
    have e : knI P V vals (k + 2) = knQ P V vals ("0", "1") ++ knQ P V vals ("1", "0") := by
      unfold knI
      rw [List.take_of_length_le (by simp [twoQ])]
      simp [twoQ]
    rw [e, List.length_append]; omega
theorem nb_few (p : Dev → Bool) (m : Int) : (nbL (lnkL p V) m).length ≤ 2 * V.length := by
  have key : ∀ (L : Lk) (k : Nat), (∀ q ∈ L, q.2.length ≤ k) → (nbL L m).length ≤ k := by
    intro L k
    induction L with
    | nil => intro _; exact Nat.zero_le _
    | cons q r ih =>
      intro h
      obtain ⟨a, xs⟩ := q
      show (if a = m then xs else nbL r m).length ≤ k
      split
      · exact h (a, xs) List.mem_cons_self
      · exact ih fun z hz => h z (List.mem_cons_of_mem _ hz)
  exact key _ _ (lnk_bd p V).2
end
end DL
namespace DL
open PySem PySem.Spec PyProof.Rows L2
def nvS (P K : Fx) (net : Int) : Str := if fxB P net = true then fvS P net else if fxB K net = true then fvS K net else "x"
def nxL (n : Int) (V : List Dev) (P : Fx) (vals : Str) : List Str := (List.range n.toNat).map fun (t : Nat) => nvS P (knw P V vals) (t : Int)
theorem fx_none {n : Int} {P : Fx} (h : fxB P n = false) : lookK (fxK P) (P.map fun p => D.str p.2) (kI n) = none := by
  induction P with
  | nil => rfl
  | cons p P ih =>
    have e : p.1 ≠ n := fun e => by
      have : fxB (p :: P) n = true := by unfold fxB; rw [hasK_iff]; exact List.mem_map.mpr ⟨p, List.mem_cons_self, by rw [e]⟩
      rw [h] at this; cases this
    show lookK (kI p.1 :: fxK P) (.str p.2 :: P.map fun p => D.str p.2) (kI n) = none
    unfold lookK
    rw [if_neg fun z => e (kI_inj z)]
    refine ih ?_
    cases q : fxB P n with
    | false => rfl
    | true =>
      have : fxB (p :: P) n = true := by
        unfold fxB at q ⊢
        rw [hasK_iff] at q ⊢
        exact List.mem_cons_of_mem _ q
      rw [h] at this; cases this
theorem fx_get {n : Int} {P : Fx} {z : Str} : (lookK (fxK P) (P.map fun p => D.str p.2) (kI n)).getD (.str z) = .str (if fxB P n = true then fvS P n else z) := by
  cases h : fxB P n with
  | true => rw [fx_look h, if_pos rfl]; rfl
  | false => rw [fx_none h, if_neg (by decide)]; rfl
theorem fvS_in {n : Int} : ∀ {P : Fx}, fxB P n = true → (n, fvS P n) ∈ P
  | [], h => by cases h
  | p :: P, h => by
    by_cases e : p.1 = n
    · have : fvS (p :: P) n = p.2 := by unfold fvS; rw [List.find?_cons, decide_eq_true e]; rfl
      rw [this, ← e]; exact List.mem_cons_self
    · have e2 : fvS (p :: P) n = fvS P n := by unfold fvS; rw [List.find?_cons, decide_eq_false e]
      have h' : fxB P n = true := by
        unfold fxB at h ⊢
        rw [hasK_iff] at h ⊢
        rcases List.mem_cons.mp h with z | z
        · exact absurd (kI_inj z).symm e
        · exact z
      rw [e2]; exact List.mem_cons_of_mem _ (fvS_in h')
theorem sumL_1 : ∀ {zs : List Str}, (∀ z ∈ zs, z.length ≤ 1) → sumL zs ≤ zs.length
  | [], _ => Nat.le_refl _
  | z :: zs, h => by
    have := sumL_1 fun x hx => h x (List.mem_cons_of_mem _ hx)
    have h1 := h z List.mem_cons_self
    rw [sumL_cons, List.length_cons]; omega
def fxE (p : Int × Str) : D := .tup [.int p.1, .str p.2]
end DL
namespace DL
open PySem PySem.Spec PyProof.Rows L2
def bAt (f : List Bool) (i : Int) : Bool := f.getD i.toNat false
def cntT (f : List Bool) : Nat := f.count true
abbrev RS2 := List Bool × List Int
def rst (here : List Int) (fx : Int → Bool) (s : RS2) (a b : Int) : RS2 := if (decide (a ∈ here) && (!fx b && !bAt s.1 b)) = true then (s.1.set b.toNat true, s.2 ++ [b]) else s
def rdev (p : Dev → Bool) (here : List Int) (fx : Int → Bool) (s : RS2) (v : Dev) : RS2 := if p v = true then rst here fx (rst here fx s v.a v.b) v.b v.a else s
def rturn (p : Dev → Bool) (fx : Int → Bool) (V : List Dev) (s : RS2) : RS2 := V.foldl (rdev p s.2 fx) (s.1, [])
def rit (p : Dev → Bool) (fx : Int → Bool) (V : List Dev) (s : RS2) : Nat → RS2
  | 0 => s
  | k + 1 => rturn p fx V (rit p fx V s k)
theorem bAt_set {f : List Bool} {b i : Int} {n : Nat} (hl : f.length = n) (hb : 0 ≤ b ∧ b < (n : Int)) (hi : 0 ≤ i) : bAt (f.set b.toNat true) i = (decide (i = b) || bAt f i) := by
  unfold bAt
  rw [List.getD_eq_getElem?_getD, List.getD_eq_getElem?_getD, List.getElem?_set]
  by_cases e : b.toNat = i.toNat
  · rw [if_pos e, if_pos (by omega), decide_eq_true (show i = b by omega)]; rfl
  · rw [if_neg e, decide_eq_false (show ¬ i = b from fun z => e (by rw [z])), Bool.false_or]
theorem cnt_set {n : Nat} : ∀ {f : List Bool}, f.getD n false = false → n < f.length → cntT (f.set n true) = cntT f + 1 := by
  induction n with
  | zero =>
    intro f h hn
    cases f with
    | nil => simp at hn
    | cons b f =>
      have : b = false := h
      subst this
      simp [cntT, List.count_cons]
  | succ n ih =>
    intro f h hn
    cases f with
    | nil => simp at hn
    | cons b f =>
      have := ih (f := f) (by simpa using h) (by simpa using hn)
      unfold cntT at this ⊢
      rw [List.set_cons_succ, List.count_cons, List.count_cons, this]; omega
theorem cnt_le (f : List Bool) : cntT f ≤ f.length := List.count_le_length
section
variable {p : Dev → Bool} {fx st : Int → Bool} {V : List Dev} {n : Nat} {here : List Int}
def lkE (p : Dev → Bool) (V : List Dev) (a b : Int) : Prop := ∃ v ∈ V, p v = true ∧ lnkd v a b
/-- all nets stand within n -/
def Win (n : Nat) (V : List Dev) : Prop := ∀ v ∈ V, (0 ≤ v.a ∧ v.a < (n : Int)) ∧ 0 ≤ v.b ∧ v.b < (n : Int)
structure RVI (p : Dev → Bool) (fx st : Int → Bool) (V : List Dev) (n : Nat) (s : RS2) : Prop where
  len : s.1.length = n
  sound : ∀ i : Int, 0 ≤ i → bAt s.1 i = true → Rch (lkE p V) fx st i
  hs : ∀ m ∈ s.2, st m = true ∨ (0 ≤ m ∧ bAt s.1 m = true)
  done : ∀ m, (st m = true ∨ (0 ≤ m ∧ bAt s.1 m = true)) → m ∉ s.2 → ∀ b, lkE p V m b → fx b = true ∨ bAt s.1 b = true
/-- within a turn: the devices W are done -/
structure RVJ (p : Dev → Bool) (fx st : Int → Bool) (V : List Dev) (n : Nat) (f0 : List Bool) (here : List Int) (lk : Int → Int → Prop) (s : RS2) : Prop where
  len : s.1.length = n
  up : ∀ i : Int, 0 ≤ i → bAt f0 i = true → bAt s.1 i = true
  sound : ∀ i : Int, 0 ≤ i → bAt s.1 i = true → Rch (lkE p V) fx st i
  more : ∀ m ∈ s.2, 0 ≤ m ∧ bAt s.1 m = true
  new : ∀ i : Int, 0 ≤ i → bAt s.1 i = true → bAt f0 i = true ∨ i ∈ s.2
  seen : ∀ a b, a ∈ here → lk a b → fx b = true ∨ bAt s.1 b = true
  cnt : cntT s.1 = cntT f0 + s.2.length
theorem rj_step {f0 : List Bool} {lk : Int → Int → Prop} {s : RS2} {a b : Int} (h : RVJ p fx st V n f0 here lk s) (hh : ∀ m ∈ here, st m = true ∨ (0 ≤ m ∧ bAt f0 m = true)) (hs0 : ∀ i : Int, 0 ≤ i → bAt f0 i = true → Rch (lkE p V) fx st i) (hb : 0 ≤ b ∧ b < (n : Int)) (he : lkE p V a b) :
    RVJ p fx st V n f0 here (fun x y => lk x y ∨ (x = a ∧ y = b)) (rst here fx s a b) := by
  unfold rst
  by_cases c : (decide (a ∈ here) && (!fx b && !bAt s.1 b)) = true
  · rw [if_pos c]
    simp only [Bool.and_eq_true, decide_eq_true_eq, Bool.not_eq_true'] at c
    obtain ⟨c1, c2, c3⟩ := c
    have at1 : ∀ {i : Int}, 0 ≤ i → bAt (s.1.set b.toNat true) i = (decide (i = b) || bAt s.1 i) := fun hi => bAt_set h.len hb hi
    have old : ∀ {i : Int}, 0 ≤ i → bAt s.1 i = true → bAt (s.1.set b.toNat true) i = true := fun hi z => by rw [at1 hi, z, Bool.or_true]
    have hbt : bAt (s.1.set b.toNat true) b = true := by rw [at1 hb.1, decide_eq_true rfl]; rfl
    have rb : Rch (lkE p V) fx st b := by
      rcases hh a c1 with z | z
      · exact .base z he c2
      · exact .step (hs0 a z.1 z.2) he c2
    have split : ∀ {i : Int}, 0 ≤ i → bAt (s.1.set b.toNat true) i = true → i = b ∨ bAt s.1 i = true := fun hi z => by
      rw [at1 hi, Bool.or_eq_true, decide_eq_true_eq] at z; exact z
    refine ⟨by show (s.1.set _ _).length = n; rw [List.length_set]; exact h.len, fun i hi z => old hi (h.up i hi z), fun i hi z => ?_, fun m hm => ?_, fun i hi z => ?_, fun x y hx hl => ?_, ?_⟩
    · rcases split hi z with e | e
      · rw [e]; exact rb
      · exact h.sound i hi e
    · rcases List.mem_append.mp hm with z | z
      · exact ⟨(h.more m z).1, old (h.more m z).1 (h.more m z).2⟩
      · rw [List.mem_singleton] at z; rw [z]; exact ⟨hb.1, hbt⟩
    · rcases split hi z with e | e
      · exact .inr (by rw [e]; exact List.mem_append_right _ (by simp))
      · exact (h.new i hi e).imp id fun z => List.mem_append_left _ z
    · rcases hl with hl | ⟨_, e⟩
      · rcases h.seen x y hx hl with z | z
        · exact .inl z
        · by_cases hy : 0 ≤ y
          · exact .inr (old hy z)
          · have e0 : y.toNat = 0 := by omega
            by_cases hb0 : b.toNat = 0
            · refine .inr ?_
              show (s.1.set b.toNat true).getD y.toNat false = true
              rw [e0, hb0, List.getD_eq_getElem?_getD, List.getElem?_set_self (by have := h.len; omega)]; rfl
            · refine .inr ?_
              show (s.1.set b.toNat true).getD y.toNat false = true
              rw [e0, List.getD_eq_getElem?_getD, List.getElem?_set_ne hb0, ← List.getD_eq_getElem?_getD]
              have z : s.1.getD y.toNat false = true := z
              rw [e0] at z; exact z
      · exact .inr (by rw [e]; exact hbt)
    · show cntT (s.1.set b.toNat true) = cntT f0 + (s.2 ++ [b]).length
      rw [cnt_set c3 (by have := h.len; omega), h.cnt, List.length_append]; rfl
  · rw [if_neg c]
    refine ⟨h.len, h.up, h.sound, h.more, h.new, fun x y hx hl => ?_, h.cnt⟩
    rcases hl with hl | ⟨rfl, rfl⟩
    · exact h.seen x y hx hl
    · simp only [Bool.and_eq_true, decide_eq_true_eq, Bool.not_eq_true', hx, true_and] at c
      cases e1 : fx y with
      | true => exact .inl rfl
      | false =>
        cases e2 : bAt s.1 y with
        | true => exact .inr rfl
        | false => exact absurd ⟨e1, e2⟩ c
theorem rj_imp {f0 : List Bool} {lk lk' : Int → Int → Prop} {s : RS2} (h : RVJ p fx st V n f0 here lk s) (hi : ∀ x y, lk' x y → lk x y) : RVJ p fx st V n f0 here lk' s :=
  ⟨h.len, h.up, h.sound, h.more, h.new, fun x y hx hl => h.seen x y hx (hi x y hl), h.cnt⟩
theorem rj_fold {f0 : List Bool} (hw : Win n V) (hh : ∀ m ∈ here, st m = true ∨ (0 ≤ m ∧ bAt f0 m = true)) (hs0 : ∀ i : Int, 0 ≤ i → bAt f0 i = true → Rch (lkE p V) fx st i) : ∀ (W U : List Dev) (s : RS2), (∀ v ∈ W, v ∈ V) → RVJ p fx st V n f0 here (lkE p U) s → RVJ p fx st V n f0 here (lkE p (U ++ W)) (W.foldl (rdev p here fx) s)
  | [], U, s, _, h => by rw [List.append_nil]; exact h
  | v :: W, U, s, hv, h => by
    have hvV := hv v List.mem_cons_self
    have step : RVJ p fx st V n f0 here (lkE p (U ++ [v])) (rdev p here fx s v) := by
      unfold rdev
      by_cases hp : p v = true
      · rw [if_pos hp]
        have j1 := rj_step (a := v.a) (b := v.b) h hh hs0 (hw v hvV).2 ⟨v, hvV, hp, .inl ⟨rfl, rfl⟩⟩
        have j2 := rj_step (a := v.b) (b := v.a) j1 hh hs0 (hw v hvV).1 ⟨v, hvV, hp, .inr ⟨rfl, rfl⟩⟩
        refine rj_imp j2 fun x y ⟨z, hz, hpz, hl⟩ => ?_
        rcases List.mem_append.mp hz with hz | hz
        · exact .inl (.inl ⟨z, hz, hpz, hl⟩)
        · rw [List.mem_singleton] at hz; subst hz
          rcases hl with ⟨e1, e2⟩ | ⟨e1, e2⟩
          · exact .inl (.inr ⟨e1.symm, e2.symm⟩)
          · exact .inr ⟨e1.symm, e2.symm⟩
      · rw [if_neg hp]
        refine rj_imp h fun x y ⟨z, hz, hpz, hl⟩ => ?_
        rcases List.mem_append.mp hz with hz | hz
        · exact ⟨z, hz, hpz, hl⟩
        · rw [List.mem_singleton] at hz; subst hz; exact absurd hpz hp
    have := rj_fold hw hh hs0 W (U ++ [v]) _ (fun x hx => hv x (List.mem_cons_of_mem _ hx)) step
    rw [List.append_assoc] at this
    exact this
theorem ri_turn {s : RS2} (hw : Win n V) (h : RVI p fx st V n s) : RVI p fx st V n (rturn p fx V s) ∧ cntT (rturn p fx V s).1 = cntT s.1 + (rturn p fx V s).2.length := by
  have j0 : RVJ p fx st V n s.1 s.2 (lkE p []) (s.1, []) := ⟨h.len, fun i _ z => z, h.sound, fun m hm => by simp at hm, fun i _ z => .inl z, fun x y _ ⟨z, hz, _⟩ => by simp at hz, by simp⟩
  have j := rj_fold hw h.hs h.sound V [] (s.1, []) (fun v hv => hv) j0
  rw [List.nil_append] at j
  refine ⟨⟨j.len, j.sound, fun m hm => .inr (j.more m hm), fun m hm nm b hb => ?_⟩, j.cnt⟩
  have hm' : st m = true ∨ (0 ≤ m ∧ bAt s.1 m = true) := by
    rcases hm with z | ⟨z0, z⟩
    · exact .inl z
    · rcases j.new m z0 z with q | q
      · exact .inr ⟨z0, q⟩
      · exact absurd q nm
  by_cases hin : m ∈ s.2
  · exact j.seen m b hin hb
  · rcases h.done m hm' hin b hb with z | z
    · exact .inl z
    · obtain ⟨v, hv, _, hl⟩ := hb
      have hb0 : 0 ≤ b := by
        rcases hl with ⟨_, e⟩ | ⟨_, e⟩
        · rw [← e]; exact (hw v hv).2.1
        · rw [← e]; exact (hw v hv).1.1
      exact .inr (j.up b hb0 z)
theorem ri_it {s : RS2} (hw : Win n V) (h : RVI p fx st V n s) : ∀ k, RVI p fx st V n (rit p fx V s k)
  | 0 => h
  | k + 1 => (ri_turn hw (ri_it hw h k)).1
theorem rturn_nil {s : RS2} (h : s.2 = []) : rturn p fx V s = (s.1, []) := by
  unfold rturn
  rw [h]
  have key : ∀ (W : List Dev) (t : RS2), W.foldl (rdev p [] fx) t = t := by
    intro W
    induction W with
    | nil => exact fun t => rfl
    | cons v W ih =>
      intro t
      rw [List.foldl_cons, ih]
      unfold rdev rst
      simp
  exact key V (s.1, [])
theorem rit_stop {s : RS2} {i : Nat} (h : (rit p fx V s i).2 = []) : ∀ k, rit p fx V s (i + k) = rit p fx V s i
  | 0 => rfl
  | k + 1 => by
    show rturn p fx V (rit p fx V s (i + k)) = _
    rw [rit_stop h k, rturn_nil h, ← h]
/-- so many turns are enough -/
theorem rit_end {s : RS2} (hw : Win n V) (h : RVI p fx st V n s) : (rit p fx V s (n + 1)).2 = [] := by
  have key : ∀ k, (rit p fx V s k).2 = [] ∨ k ≤ cntT (rit p fx V s k).1 ∨ k = 0 := by
    intro k
    induction k with
    | zero => exact .inr (.inr rfl)
    | succ k ih =>
      by_cases e : (rit p fx V s (k + 1)).2 = []
      · exact .inl e
      · refine .inr (.inl ?_)
        have hc : cntT (rit p fx V s (k + 1)).1 = cntT (rit p fx V s k).1 + (rit p fx V s (k + 1)).2.length := (ri_turn hw (ri_it hw h k)).2
        have hp : 0 < (rit p fx V s (k + 1)).2.length := List.length_pos_iff.mpr e
        rcases ih with z | z | z
        · have : rit p fx V s (k + 1) = rit p fx V s k := rit_stop z 1
          rw [this] at e; exact absurd z e
        · omega
        · omega
  rcases key (n + 1) with z | z | z
  · exact z
  · have h1 := cnt_le (rit p fx V s (n + 1)).1
    rw [(ri_it hw h (n + 1)).len] at h1
    omega
  · omega
theorem ri_end {f : List Bool} (hw : Win n V) (h : RVI p fx st V n (f, [])) {i : Int} (hi : 0 ≤ i) : bAt f i = true ↔ Rch (lkE p V) fx st i := by
  refine ⟨h.sound i hi, fun r => ?_⟩
  have key : ∀ {j : Int}, Rch (lkE p V) fx st j → bAt f j = true := by
    intro j r
    induction r with
    | base a b c =>
      rcases h.done _ (.inl a) (by simp) _ b with z | z
      · rw [c] at z; cases z
      · exact z
    | @step m b r0 e c ih =>
      have hm0 : 0 ≤ m := by
        have free : ∀ {j : Int}, Rch (lkE p V) fx st j → 0 ≤ j := fun {j} r => by
          cases r with
          | base _ e _ =>
            obtain ⟨v, hv, _, hl⟩ := e
            rcases hl with ⟨_, e⟩ | ⟨_, e⟩
            · rw [← e]; exact (hw v hv).2.1
            · rw [← e]; exact (hw v hv).1.1
          | step _ e _ =>
            obtain ⟨v, hv, _, hl⟩ := e
            rcases hl with ⟨_, e⟩ | ⟨_, e⟩
            · rw [← e]; exact (hw v hv).2.1
            · rw [← e]; exact (hw v hv).1.1
        exact free r0
      rcases h.done _ (.inr ⟨hm0, ih⟩) (by simp) _ e with z | z
      · rw [c] at z; cases z
      · exact z
  exact key r
theorem ri_start {S : List Int} (h : ∀ m, st m = true → m ∈ S) (h2 : ∀ m ∈ S, st m = true) : RVI p fx st V n (List.replicate n false, S) := by
  have z : ∀ i : Int, bAt (List.replicate n false) i = false := fun i => by
    unfold bAt
    rw [List.getD_eq_getElem?_getD, List.getElem?_replicate]
    split <;> rfl
  refine ⟨List.length_replicate, fun i _ e => ?_, fun m hm => .inl (h2 m hm), fun m hm nm => ?_⟩
  · rw [z i] at e; cases e
  · rcases hm with q | ⟨_, q⟩
    · exact absurd (h m q) nm
    · rw [z m] at q; cases q
end
end DL
namespace DL
open PySem PySem.Spec PyProof.Rows L2
theorem c2_inSign {X : Cx} {c : Nat} {z : Str} : C2 X .In (.str ⟨#[c]⟩) (.str z) (.bl (decide (c ∈ z.cps.toList))) := ⟨_, op_in_sign, fun H0 H u v Q s r1 r2 k => by
  cases (show u = .str ⟨#[c]⟩ from r1)
  cases (show v = .str z from r2)
  exact ⟨c, z, rfl, rfl, k _ H0 H (JH.refl s) rfl⟩⟩
def vlC (vals : Str) (g : Int) : Nat := vals.cps.toList.getD g.toNat 0
def flipC (c : Nat) : Nat := if c = 48 then 49 else if c = 49 then 48 else c
def lvC (vals : Str) (v : Dev) : Nat := if v.k = "p" then flipC (vlC vals v.g) else vlC vals v.g
def lvB (levels vals : Str) (v : Dev) : Bool := decide (lvC vals v ∈ levels.cps.toList)
def s1B (P : Fx) (vals starts : Str) (m : Int) : Bool := fxB P m && decide (vlC vals m ∈ starts.cps.toList)
/-- only 0, 1, x -/
def Sgn (vals : Str) : Prop := ∀ c ∈ vals.cps.toList, c = 48 ∨ c = 49 ∨ c = 120
theorem sg_0 : ("0" : Str) = ⟨#[48]⟩ := by decide +kernel
theorem sg_1 : ("1" : Str) = ⟨#[49]⟩ := by decide +kernel
theorem sg_x : ("x" : Str) = ⟨#[120]⟩ := by decide +kernel
def flK : List (Key × D) := [(.inr "0", .str "1"), (.inr "1", .str "0"), (.inr "x", .str "x")]
theorem fl_look {c : Nat} (h : c = 48 ∨ c = 49 ∨ c = 120) : lookK (flK.map (·.1)) (flK.map (·.2)) (.inr ⟨#[c]⟩) = some (.str ⟨#[flipC c]⟩) := by
  have e : flK = [(.inr ⟨#[48]⟩, .str ⟨#[49]⟩), (.inr ⟨#[49]⟩, .str ⟨#[48]⟩), (.inr ⟨#[120]⟩, .str ⟨#[120]⟩)] := by unfold flK; rw [sg_0, sg_1, sg_x]
  rw [e]
  rcases h with rfl | rfl | rfl <;> rfl
theorem vl_sgn {vals : Str} {g n : Int} (hs : Sgn vals) (h0 : 0 ≤ g) (h1 : g < n) (hl : (vals.cps.toList.length : Int) = n) : vlC vals g = 48 ∨ vlC vals g = 49 ∨ vlC vals g = 120 := by
  refine hs _ ?_
  unfold vlC
  rw [List.getD_eq_getElem?_getD, List.getElem?_eq_getElem (show g.toNat < vals.cps.toList.length by omega)]
  exact List.getElem_mem _
theorem cd_all : ∀ a : Fin 3, (decide (("n" : Str) ++ (⟨#[[48, 49, 120].getD a.val 0]⟩ : Str) ∈ sureS) = decide ([48, 49, 120].getD a.val 0 ∈ ("1" : Str).cps.toList)) ∧ (decide (("p" : Str) ++ (⟨#[[48, 49, 120].getD a.val 0]⟩ : Str) ∈ sureS) = decide (flipC ([48, 49, 120].getD a.val 0) ∈ ("1" : Str).cps.toList)) ∧
    (decide (("n" : Str) ++ (⟨#[[48, 49, 120].getD a.val 0]⟩ : Str) ∈ perhS) = decide ([48, 49, 120].getD a.val 0 ∈ ("1x" : Str).cps.toList)) ∧ (decide (("p" : Str) ++ (⟨#[[48, 49, 120].getD a.val 0]⟩ : Str) ∈ perhS) = decide (flipC ([48, 49, 120].getD a.val 0) ∈ ("1x" : Str).cps.toList)) := by decide +kernel
theorem np_ne : ¬ (("n" : Str) = "p") := by decide +kernel
theorem cd_lv {vals : Str} {v : Dev} {n : Int} (h : DevOk n v) (hs : Sgn vals) (hl : (vals.cps.toList.length : Int) = n) : cdB sureS vals v = lvB "1" vals v ∧ cdB perhS vals v = lvB "1x" vals v := by
  have hv : vlS vals v.g = ⟨#[vlC vals v.g]⟩ := rfl
  have key : ∃ a : Fin 3, vlC vals v.g = [48, 49, 120].getD a.val 0 := by
    rcases vl_sgn hs h.g.1 h.g.2 hl with e | e | e
    · exact ⟨0, e⟩
    · exact ⟨1, e⟩
    · exact ⟨2, e⟩
  obtain ⟨a, ha⟩ := key
  obtain ⟨h1, h2, h3, h4⟩ := cd_all a
  unfold cdB lvB lvC
  rw [hv, ha]
  rcases h.k with e | e
  · rw [e, if_neg np_ne]; exact ⟨h1, h3⟩
  · rw [e, if_pos rfl]; exact ⟨h2, h4⟩
/-- the fixed values stand in the values -/
def FxIn (P : Fx) (vals : Str) : Prop := ∀ m, fxB P m = true → fvS P m = ⟨#[vlC vals m]⟩
theorem st_all : ∀ a : Fin 3, (decide ((⟨#[[48, 49, 120].getD a.val 0]⟩ : Str) ∈ (["0"] : List Str)) = decide ([48, 49, 120].getD a.val 0 ∈ ("0" : Str).cps.toList)) ∧ (decide ((⟨#[[48, 49, 120].getD a.val 0]⟩ : Str) ∈ (["1"] : List Str)) = decide ([48, 49, 120].getD a.val 0 ∈ ("1" : Str).cps.toList)) ∧
    (decide ((⟨#[[48, 49, 120].getD a.val 0]⟩ : Str) ∈ (["0", "x"] : List Str)) = decide ([48, 49, 120].getD a.val 0 ∈ ("0x" : Str).cps.toList)) ∧ (decide ((⟨#[[48, 49, 120].getD a.val 0]⟩ : Str) ∈ (["1", "x"] : List Str)) = decide ([48, 49, 120].getD a.val 0 ∈ ("1x" : Str).cps.toList)) := by decide +kernel
theorem st_s1 {P : Fx} {vals : Str} {m n : Int} (hf : FxIn P vals) (hs : Sgn vals) (hl : (vals.cps.toList.length : Int) = n) (hk : ∀ p ∈ P, 0 ≤ p.1 ∧ p.1 < n) : stB P ["0"] m = s1B P vals "0" m ∧ stB P ["1"] m = s1B P vals "1" m ∧ stB P ["0", "x"] m = s1B P vals "0x" m ∧ stB P ["1", "x"] m = s1B P vals "1x" m := by
  unfold stB s1B
  cases e : fxB P m with
  | false => exact ⟨rfl, rfl, rfl, rfl⟩
  | true =>
    have hb := hk _ (fvS_in e)
    have key : ∃ a : Fin 3, vlC vals m = [48, 49, 120].getD a.val 0 := by
      rcases vl_sgn hs hb.1 hb.2 hl with e | e | e
      · exact ⟨0, e⟩
      · exact ⟨1, e⟩
      · exact ⟨2, e⟩
    obtain ⟨a, ha⟩ := key
    obtain ⟨h1, h2, h3, h4⟩ := st_all a
    rw [hf m e, ha]
    exact ⟨h1, h2, h3, h4⟩
def hrS (P : Fx) (vals starts : Str) : List Int := (P.map (·.1)).filter (s1B P vals starts)
def hrP (P : Fx) (vals starts : Str) : Key → Bool
  | .inl m => s1B P vals starts m
  | .inr _ => false
theorem hr_eq {P Q : Fx} {vals starts : Str} : (((fxK Q).filter (hrP P vals starts)).map kD) = ((Q.map (·.1)).filter (s1B P vals starts)).map D.int := by
  induction Q with
  | nil => rfl
  | cons p Q ih =>
    show (((kI p.1 :: fxK Q).filter _).map kD) = ((p.1 :: Q.map (·.1)).filter _).map D.int
    rw [List.filter_cons, List.filter_cons]
    by_cases h : s1B P vals starts p.1 = true
    · rw [if_pos h, if_pos (show hrP P vals starts (kI p.1) = true from h), List.map_cons, List.map_cons, ih]; rfl
    · rw [if_neg h, if_neg (show ¬ hrP P vals starts (kI p.1) = true from h), ih]
def rch0 (n : Nat) (P : Fx) (vals starts : Str) : RS2 := (List.replicate n false, hrS P vals starts)
def rchI (n : Nat) (V : List Dev) (P : Fx) (vals starts levels : Str) (k : Nat) : RS2 := rit (lvB levels vals) (fxB P) V (rch0 n P vals starts) k
def rchL (n : Nat) (V : List Dev) (P : Fx) (vals starts levels : Str) : List Bool := (rchI n V P vals starts levels (n + 1)).1
theorem rst_len {here : List Int} {fx : Int → Bool} {s : RS2} {a b : Int} : (rst here fx s a b).1.length = s.1.length ∧ (rst here fx s a b).2.length ≤ s.2.length + 1 := by
  unfold rst
  split
  · exact ⟨List.length_set, by rw [List.length_append]; exact Nat.le_refl _⟩
  · exact ⟨rfl, Nat.le_succ _⟩
theorem rdev_len {p : Dev → Bool} {here : List Int} {fx : Int → Bool} {s : RS2} {v : Dev} : (rdev p here fx s v).1.length = s.1.length ∧ (rdev p here fx s v).2.length ≤ s.2.length + 2 := by
  unfold rdev
  split
  · have h1 := rst_len (here := here) (fx := fx) (s := s) (a := v.a) (b := v.b)
    have h2 := rst_len (here := here) (fx := fx) (s := rst here fx s v.a v.b) (a := v.b) (b := v.a)
    exact ⟨h2.1.trans h1.1, by omega⟩
  · exact ⟨rfl, by omega⟩
theorem rfold_len {p : Dev → Bool} {here : List Int} {fx : Int → Bool} : ∀ (W : List Dev) (s : RS2), (W.foldl (rdev p here fx) s).1.length = s.1.length ∧ (W.foldl (rdev p here fx) s).2.length ≤ s.2.length + 2 * W.length
  | [], s => ⟨rfl, by simp⟩
  | v :: W, s => by
    have h := rfold_len (p := p) (here := here) (fx := fx) W (rdev p here fx s v)
    have h1 := rdev_len (p := p) (here := here) (fx := fx) (s := s) (v := v)
    exact ⟨h.1.trans h1.1, by rw [List.length_cons]; have := h.2; simp only [List.foldl_cons] at this ⊢; omega⟩
theorem rit_len {p : Dev → Bool} {fx : Int → Bool} {V : List Dev} {s : RS2} : ∀ k, (rit p fx V s k).1.length = s.1.length
  | 0 => rfl
  | k + 1 => ((rfold_len V _).1).trans (rit_len k)
/-- both ways of a device, i of them -/
def rpr (here : List Int) (fx : Int → Bool) (v : Dev) (s : RS2) (i : Nat) : RS2 := (([(v.a, v.b), (v.b, v.a)] : List (Int × Int)).take i).foldl (fun s q => rst here fx s q.1 q.2) s
theorem rpr_succ {here : List Int} {fx : Int → Bool} {v : Dev} {s : RS2} {i : Nat} {q : Int × Int} (h : ([(v.a, v.b), (v.b, v.a)] : List (Int × Int))[i]? = some q) : rpr here fx v s (i + 1) = rst here fx (rpr here fx v s i) q.1 q.2 := by
  unfold rpr
  rw [List.take_add_one, h, List.foldl_append]; rfl
theorem rpr_len {here : List Int} {fx : Int → Bool} {v : Dev} {s : RS2} (i : Nat) : (rpr here fx v s i).1.length = s.1.length ∧ (rpr here fx v s i).2.length ≤ s.2.length + 2 := by
  have key : ∀ (xs : List (Int × Int)) (s : RS2), (xs.foldl (fun s q => rst here fx s q.1 q.2) s).1.length = s.1.length ∧ (xs.foldl (fun s q => rst here fx s q.1 q.2) s).2.length ≤ s.2.length + xs.length := by
    intro xs
    induction xs with
    | nil => exact fun s => ⟨rfl, by simp⟩
    | cons q xs ih =>
      intro s
      have h := ih (rst here fx s q.1 q.2)
      have h1 := rst_len (here := here) (fx := fx) (s := s) (a := q.1) (b := q.2)
      exact ⟨h.1.trans h1.1, by rw [List.length_cons]; have := h.2; simp only [List.foldl_cons] at this ⊢; omega⟩
  have h := key (([(v.a, v.b), (v.b, v.a)] : List (Int × Int)).take i) s
  refine ⟨h.1, Nat.le_trans h.2 ?_⟩
  have : (([(v.a, v.b), (v.b, v.a)] : List (Int × Int)).take i).length ≤ 2 := by rw [List.length_take]; simp; omega
  omega
theorem rst_yes {here : List Int} {fx : Int → Bool} {s : RS2} {a b : Int} (h : (decide (a ∈ here) && (!fx b && !bAt s.1 b)) = true) : rst here fx s a b = (s.1.set b.toNat true, s.2 ++ [b]) := if_pos h
theorem rst_no {here : List Int} {fx : Int → Bool} {s : RS2} {a b : Int} (h : (decide (a ∈ here) && (!fx b && !bAt s.1 b)) = false) : rst here fx s a b = s := if_neg (by rw [h]; decide)
theorem bAt_at {f : List Bool} {b : Int} {n : Nat} (hl : f.length = n) (hb : 0 ≤ b ∧ b < (n : Int)) : atI (f.map D.bl) b = some (.bl (bAt f b)) ∧ ixN (f.map D.bl).length b = some b.toNat := by
  have e : ixN (f.map D.bl).length b = some b.toNat := by
    unfold ixN
    rw [if_pos hb.1, if_pos (by rw [List.length_map, hl]; exact hb.2)]
  refine ⟨?_, e⟩
  unfold atI
  rw [e]
  show (f.map D.bl)[b.toNat]? = _
  rw [List.getElem?_map, List.getElem?_eq_getElem (show b.toNat < f.length by omega)]
  unfold bAt
  rw [List.getD_eq_getElem?_getD, List.getElem?_eq_getElem (show b.toNat < f.length by omega)]; rfl
theorem pair_in {v : Dev} {q : Int × Int} {n : Int} (h : DevOk n v) {i : Nat} (hx : ([(v.a, v.b), (v.b, v.a)] : List (Int × Int))[i]? = some q) : 0 ≤ q.2 ∧ q.2 < n := by
  have := List.mem_of_getElem? hx
  simp only [List.mem_cons, List.not_mem_nil, or_false] at this
  have he := h.e
  rcases this with rfl | rfl
  · exact ⟨by show 0 ≤ v.b; omega, he.2.2⟩
  · exact ⟨he.1, by show v.a < n; omega⟩
theorem rep_map (n : Nat) : (List.range n).map (fun _ => D.bl false) = (List.replicate n false).map D.bl := by
  rw [List.map_replicate]
  refine List.ext_getElem? fun i => ?_
  rw [List.getElem?_map, List.getElem?_replicate]
  by_cases h : i < n
  · rw [List.getElem?_range h, if_pos h]; rfl
  · rw [List.getElem?_eq_none (by rw [List.length_range]; omega), if_neg h]; rfl
end DL
namespace DL
open PySem PySem.Spec PyProof.Rows L2
def accS (zs : List Str) : Str := zs.foldl (fun a b => a ++ b) ""
theorem accS_snoc (zs : List Str) (z : Str) : accS (zs ++ [z]) = accS zs ++ z := by unfold accS; rw [List.foldl_append]; rfl
theorem accS_len : ∀ {zs : List Str}, (∀ z ∈ zs, z.length ≤ 1) → (accS zs).length ≤ zs.length := by
  refine fun {zs} => snoc_ind (P := fun zs => (∀ z ∈ zs, z.length ≤ 1) → (accS zs).length ≤ zs.length) (fun _ => by decide +kernel) (fun l x ih h => ?_) zs
  rw [accS_snoc, app_len, List.length_append]
  have h1 := ih fun z hz => h z (List.mem_append_left _ hz)
  have h2 := h x (by simp)
  simp only [List.length_cons, List.length_nil]
  omega
theorem Rch.iff {E E' : Int → Int → Prop} {fx st st' : Int → Bool} {n : Int} (hE : ∀ m n, E m n ↔ E' m n) (hs : ∀ m, st m = st' m) : Rch E fx st n ↔ Rch E' fx st' n :=
  ⟨fun h => h.mono (fun m n => (hE m n).mp) fun m z => by rw [← hs]; exact z, fun h => h.mono (fun m n => (hE m n).mpr) fun m z => by rw [hs]; exact z⟩
theorem fx_key {P : Fx} {m : Int} : fxB P m = true ↔ m ∈ P.map (·.1) := by
  unfold fxB
  rw [hasK_iff]
  unfold fxK
  rw [List.mem_map, List.mem_map]
  exact ⟨fun ⟨p, h, e⟩ => ⟨p, h, kI_inj e⟩, fun ⟨p, h, e⟩ => ⟨p, h, by rw [e]⟩⟩
section
variable {n : Nat} {V : List Dev} {P : Fx} {vals : Str}
theorem rchL_len (starts levels : Str) : (rchL n V P vals starts levels).length = n := (rit_len (n + 1)).trans List.length_replicate
theorem win_of (ok : ∀ v ∈ V, DevOk n v) : Win n V := fun v hv => by
  have h := (ok v hv).e
  exact ⟨⟨h.1, by omega⟩, by omega, h.2.2⟩
theorem rchL_iff (ok : ∀ v ∈ V, DevOk n v) (starts levels : Str) {i : Int} (hi : 0 ≤ i) : bAt (rchL n V P vals starts levels) i = true ↔ Rch (lkE (lvB levels vals) V) (fxB P) (s1B P vals starts) i := by
  have hw := win_of ok
  have r0 : RVI (lvB levels vals) (fxB P) (s1B P vals starts) V n (rch0 n P vals starts) := ri_start (fun m h => by
    have h' := h
    unfold s1B at h'
    rw [Bool.and_eq_true] at h'
    exact List.mem_filter.mpr ⟨fx_key.mp h'.1, h⟩) fun m h => (List.mem_filter.mp h).2
  have r1 := ri_it hw r0 (n + 1)
  have e := rit_end hw r0
  have e2 : rit (lvB levels vals) (fxB P) V (rch0 n P vals starts) (n + 1) = (rchL n V P vals starts levels, []) := by
    rw [← e]; rfl
  rw [e2] at r1
  exact ri_end hw r1 hi
theorem mem_dec {a : Bool} {p : Prop} [Decidable p] (h : a = true ↔ p) : a = decide p := by
  by_cases q : p
  · rw [decide_eq_true q]; exact h.mpr q
  · rw [decide_eq_false q]
    cases a with
    | false => rfl
    | true => exact absurd (h.mp rfl) q
structure Agr (n : Nat) (V : List Dev) (P : Fx) (vals : Str) : Prop where
  ok : ∀ v ∈ V, DevOk n v
  hv : (vals.cps.toList.length : Int) = n
  hs : Sgn vals
  hk : ∀ p ∈ P, 0 ≤ p.1 ∧ p.1 < (n : Int)
  hf : FxIn P vals
theorem Agr.eS (h : Agr n V P vals) (m k : Int) : k ∈ nbL (lkS V vals) m ↔ lkE (lvB "1" vals) V m k := by
  unfold lkS
  rw [nbL_lnk]
  exact ⟨fun ⟨v, hv, hp, hl⟩ => ⟨v, hv, by rw [← (cd_lv (h.ok v hv) h.hs h.hv).1]; exact hp, hl⟩, fun ⟨v, hv, hp, hl⟩ => ⟨v, hv, by rw [(cd_lv (h.ok v hv) h.hs h.hv).1]; exact hp, hl⟩⟩
theorem Agr.eP (h : Agr n V P vals) (m k : Int) : k ∈ nbL (lkP V vals) m ↔ lkE (lvB "1x" vals) V m k := by
  unfold lkP
  rw [nbL_lnk]
  exact ⟨fun ⟨v, hv, hp, hl⟩ => ⟨v, hv, by rw [← (cd_lv (h.ok v hv) h.hs h.hv).2]; exact hp, hl⟩, fun ⟨v, hv, hp, hl⟩ => ⟨v, hv, by rw [(cd_lv (h.ok v hv) h.hs h.hv).2]; exact hp, hl⟩⟩
theorem Agr.b1 (h : Agr n V P vals) {i : Int} (hi : 0 ≤ i) : bAt (rchL n V P vals "1" "1") i = decide (i ∈ surP P V vals "1") := mem_dec ((rchL_iff h.ok _ _ hi).trans ((Rch.iff (fun m k => (h.eS m k).symm) fun m => (st_s1 h.hf h.hs h.hv h.hk).2.1.symm).trans (pul_mem (lnk_ok _ _) i).symm))
theorem Agr.b0 (h : Agr n V P vals) {i : Int} (hi : 0 ≤ i) : bAt (rchL n V P vals "0" "1") i = decide (i ∈ surP P V vals "0") := mem_dec ((rchL_iff h.ok _ _ hi).trans ((Rch.iff (fun m k => (h.eS m k).symm) fun m => (st_s1 h.hf h.hs h.hv h.hk).1.symm).trans (pul_mem (lnk_ok _ _) i).symm))
theorem Agr.c1 (h : Agr n V P vals) {i : Int} (hi : 0 ≤ i) : bAt (rchL n V P vals "1x" "1x") i = decide (i ∈ conP P V vals "1") := mem_dec ((rchL_iff h.ok _ _ hi).trans ((Rch.iff (fun m k => (h.eP m k).symm) fun m => (st_s1 h.hf h.hs h.hv h.hk).2.2.2.symm).trans (pul_mem (lnk_ok _ _) i).symm))
theorem Agr.c0 (h : Agr n V P vals) {i : Int} (hi : 0 ≤ i) : bAt (rchL n V P vals "0x" "1x") i = decide (i ∈ conP P V vals "0") := mem_dec ((rchL_iff h.ok _ _ hi).trans ((Rch.iff (fun m k => (h.eP m k).symm) fun m => (st_s1 h.hf h.hs h.hv h.hk).2.2.1.symm).trans (pul_mem (lnk_ok _ _) i).symm))
theorem fxB_app (A B : Fx) (m : Int) : fxB (A ++ B) m = (fxB A m || fxB B m) := by
  rw [Bool.eq_iff_iff, Bool.or_eq_true, fx_key, fx_key, fx_key, List.map_append, List.mem_append]
theorem fvS_app (A B : Fx) (m : Int) : fvS (A ++ B) m = if fxB A m = true then fvS A m else fvS B m := by
  unfold fvS
  rw [List.find?_append]
  cases e : A.find? fun p => decide (p.1 = m) with
  | some p =>
    have h1 := List.mem_of_find?_eq_some e
    have h2 : p.1 = m := by simpa using List.find?_some e
    rw [if_pos (fx_key.mpr (List.mem_map.mpr ⟨p, h1, h2⟩))]; rfl
  | none =>
    have : ¬ fxB A m = true := fun z => by
      obtain ⟨p, hp, hm⟩ := List.mem_map.mp (fx_key.mp z)
      have := List.find?_eq_none.mp e p hp
      simp [hm] at this
    rw [if_neg this]; rfl
theorem knQ_B (q : Str × Str) (m : Int) : fxB (knQ P V vals q) m = (decide (m ∈ surP P V vals q.1) && !decide (m ∈ conP P V vals q.2)) := by
  rw [Bool.eq_iff_iff, fx_key]
  unfold knQ knF
  rw [List.map_map, List.mem_map, Bool.and_eq_true, decide_eq_true_eq]
  constructor
  · rintro ⟨z, hz, e⟩
    have e : z = m := e
    subst e
    exact List.mem_filter.mp hz
  · rintro ⟨h1, h2⟩
    exact ⟨m, List.mem_filter.mpr ⟨h1, h2⟩, rfl⟩
theorem knQ_v (q : Str × Str) (m : Int) (h : fxB (knQ P V vals q) m = true) : fvS (knQ P V vals q) m = q.1 := by
  have := fvS_in h
  obtain ⟨z, _, e⟩ := List.mem_map.mp this
  exact (congrArg Prod.snd e).symm
theorem knw_eq : knw P V vals = knQ P V vals ("0", "1") ++ knQ P V vals ("1", "0") := by
  unfold knw knI twoQ
  simp
def qvS (n : Nat) (V : List Dev) (P : Fx) (vals : Str) (i : Int) : Str := if (bAt (rchL n V P vals "0" "1") i && !bAt (rchL n V P vals "1x" "1x") i) = true then "0" else if (bAt (rchL n V P vals "1" "1") i && !bAt (rchL n V P vals "0x" "1x") i) = true then "1" else "x"
def qnS (n : Nat) (V : List Dev) (P : Fx) (vals : Str) (i : Int) : Str := if fxB P i = true then fvS P i else qvS n V P vals i
theorem qn_nv (h : Agr n V P vals) {i : Int} (hi : 0 ≤ i) : qnS n V P vals i = nvS P (knw P V vals) i := by
  unfold qnS nvS qvS
  rw [h.b0 hi, h.b1 hi, h.c0 hi, h.c1 hi, knw_eq, fxB_app, fvS_app, knQ_B, knQ_B]
  by_cases e0 : fxB P i = true
  · rw [if_pos e0, if_pos e0]
  · rw [if_neg e0, if_neg e0]
    by_cases e1 : (decide (i ∈ surP P V vals "0") && !decide (i ∈ conP P V vals "1")) = true
    · rw [if_pos e1, if_pos (by rw [e1]; rfl), if_pos e1, knQ_v _ _ (by rw [knQ_B]; exact e1)]
    · rw [if_neg e1, if_neg e1]
      by_cases e2 : (decide (i ∈ surP P V vals "1") && !decide (i ∈ conP P V vals "0")) = true
      · rw [if_pos e2, if_pos (by rw [e2, Bool.or_true]), knQ_v _ _ (by rw [knQ_B]; exact e2)]
      · rw [if_neg e2, if_neg (by rw [Bool.or_eq_true]; exact fun z => z.elim e1 e2)]
theorem qn_len (hP : ∀ p ∈ P, p.2.length ≤ 1) (i : Int) : (qnS n V P vals i).length ≤ 1 := by
  unfold qnS
  split
  · rename_i h; exact hP _ (fvS_in h)
  · unfold qvS
    split
    · decide +kernel
    · split <;> decide +kernel
def qnL (n : Nat) (V : List Dev) (P : Fx) (vals : Str) (i : Nat) : List Str := (List.range i).map fun (t : Nat) => qnS n V P vals (t : Int)
theorem qnL_succ (i : Nat) : accS (qnL n V P vals (i + 1)) = accS (qnL n V P vals i) ++ qnS n V P vals (i : Int) := by
  unfold qnL; rw [List.range_succ, List.map_append]; exact accS_snoc _ _
theorem qnL_room (hP : ∀ p ∈ P, p.2.length ≤ 1) (i : Nat) : (accS (qnL n V P vals i)).length ≤ i := by
  have := accS_len (zs := qnL n V P vals i) fun z hz => by
    obtain ⟨t, _, rfl⟩ := List.mem_map.mp hz
    exact qn_len hP _
  unfold qnL at this ⊢
  rwa [List.length_map, List.length_range] at this
theorem qn_nx (h : Agr n V P vals) : qnL n V P vals n = nxL n V P vals := by
  unfold qnL nxL
  rw [Int.toNat_natCast]
  exact List.map_congr_left fun t _ => qn_nv h (by omega)
end
theorem sapp (a b c : Str) : a ++ b ++ c = a ++ (b ++ c) := by
  obtain ⟨a⟩ := a; obtain ⟨b⟩ := b; obtain ⟨c⟩ := c
  show (⟨a ++ b ++ c⟩ : Str) = ⟨a ++ (b ++ c)⟩
  rw [Array.append_assoc]
theorem semp (a : Str) : ("" : Str) ++ a = a := by
  obtain ⟨a⟩ := a
  have e : ("" : Str) = ⟨#[]⟩ := by decide +kernel
  rw [e]
  show (⟨#[] ++ a⟩ : Str) = ⟨a⟩
  rw [Array.empty_append]
theorem acc_cons : ∀ (zs : List Str) (a : Str), zs.foldl (fun a b => a ++ b) a = a ++ accS zs
  | [], a => by
    obtain ⟨a⟩ := a
    have e : accS [] = ⟨#[]⟩ := by decide +kernel
    rw [e]
    show (⟨a⟩ : Str) = ⟨a ++ #[]⟩
    rw [Array.append_empty]
  | z :: zs, a => by
    show zs.foldl (fun a b => a ++ b) (a ++ z) = a ++ zs.foldl (fun a b => a ++ b) ("" ++ z)
    rw [acc_cons zs (a ++ z), acc_cons zs ("" ++ z), semp, sapp]
theorem acc_join : ∀ zs : List Str, Str.join "" zs = accS zs
  | [] => rfl
  | [x] => by show x = "" ++ x; rw [semp]
  | x :: y :: r => by
    show x ++ "" ++ Str.join "" (y :: r) = (y :: r).foldl (fun a b => a ++ b) ("" ++ x)
    rw [acc_join (y :: r), acc_cons (y :: r), semp, sapp, semp]
section
variable {n : Nat} {V : List Dev} {P : Fx} {vals : Str} {i : Int}
theorem qv_0 (h : (bAt (rchL n V P vals "0" "1") i && !bAt (rchL n V P vals "1x" "1x") i) = true) : qvS n V P vals i = "0" := if_pos h
theorem qv_1 (h : (bAt (rchL n V P vals "0" "1") i && !bAt (rchL n V P vals "1x" "1x") i) = false) (h2 : (bAt (rchL n V P vals "1" "1") i && !bAt (rchL n V P vals "0x" "1x") i) = true) : qvS n V P vals i = "1" := by
  unfold qvS; rw [if_neg (by rw [h]; decide), if_pos h2]
theorem qv_x (h : (bAt (rchL n V P vals "0" "1") i && !bAt (rchL n V P vals "1x" "1x") i) = false) (h2 : (bAt (rchL n V P vals "1" "1") i && !bAt (rchL n V P vals "0x" "1x") i) = false) : qvS n V P vals i = "x" := by
  unfold qvS; rw [if_neg (by rw [h]; decide), if_neg (by rw [h2]; decide)]
end
end DL
namespace DL
open PySem PySem.Spec PyProof.Rows L2
/-- what the fixed values are -/
structure FOk (n : Nat) (P : Fx) : Prop where
  nd : (fxK P).Nodup
  k : ∀ p ∈ P, 0 ≤ p.1 ∧ p.1 < (n : Int)
  v : ∀ p ∈ P, ∃ c, p.2 = ⟨#[c]⟩ ∧ (c = 48 ∨ c = 49 ∨ c = 120)
  l : P.length ≤ n
theorem acc_cps : ∀ zs : List Str, (accS zs).cps.toList = (zs.map fun z => z.cps.toList).flatten := by
  refine snoc_ind (P := fun zs => (accS zs).cps.toList = (zs.map fun z => z.cps.toList).flatten) (by decide +kernel) fun l x ih => ?_
  rw [accS_snoc, List.map_append, List.flatten_append, ← ih]
  show ((accS l).cps ++ x.cps).toList = _
  rw [Array.toList_append]; simp
theorem FOk.one {n : Nat} {P : Fx} (h : FOk n P) : ∀ p ∈ P, p.2.length ≤ 1 := fun p hp => by
  obtain ⟨c, e, _⟩ := h.v p hp
  rw [e]; exact Nat.le_of_eq (one_len c)
theorem nx_same {n : Nat} {V : List Dev} {P : Fx} {vals : Str} (h : Agr n V P vals) : Str.join "" (nxL n V P vals) = accS (qnL n V P vals n) := by rw [acc_join, qn_nx h]
end DL
namespace DL
open PySem PySem.Spec PyProof.Rows L2
/-- w knows what z knows, and perhaps more -/
def LeV (n : Int) (z w : Str) : Prop := ∀ m, 0 ≤ m → m < n → vlS z m ≠ ("x" : Str) → vlS w m = vlS z m
theorem LeV.refl (n : Int) (z : Str) : LeV n z z := fun _ _ _ _ => rfl
theorem LeV.trans {n : Int} {a b c : Str} (h : LeV n a b) (h2 : LeV n b c) : LeV n a c := fun m h0 h1 hx => by
  have e := h m h0 h1 hx
  rw [h2 m h0 h1 (by rw [e]; exact hx), e]
theorem k_x : ∀ k : Str, k = ("n" : Str) ∨ k = ("p" : Str) → k ++ ("x" : Str) ∉ sureS ∧ k ++ ("x" : Str) ∈ perhS := fun k h => by
  rcases h with rfl | rfl <;> decide +kernel
theorem sure_mono {n : Int} {z w : Str} (h : LeV n z w) {v : Dev} (ok : DevOk n v) (c : cdB sureS z v = true) : cdB sureS w v = true := by
  have hz : vlS z v.g ≠ ("x" : Str) := fun e => by
    have := of_decide_eq_true c
    rw [e] at this
    exact (k_x v.k ok.k).1 this
  unfold cdB at c ⊢
  rw [h v.g ok.g.1 ok.g.2 hz]
  exact c
theorem perh_mono {n : Int} {z w : Str} (h : LeV n z w) {v : Dev} (ok : DevOk n v) (c : cdB perhS w v = true) : cdB perhS z v = true := by
  by_cases hz : vlS z v.g = ("x" : Str)
  · unfold cdB
    rw [hz]
    exact decide_eq_true (k_x v.k ok.k).2
  · unfold cdB at c ⊢
    rw [← h v.g ok.g.1 ok.g.2 hz]
    exact c
section
variable {n : Int} {P : Fx} {V : List Dev} {z w : Str}
theorem sur_rch (P : Fx) (V : List Dev) (z c : Str) (m : Int) : m ∈ surP P V z c ↔ Rch (fun a b => ∃ v ∈ V, cdB sureS z v = true ∧ lnkd v a b) (fxB P) (stB P [c]) m := by
  unfold surP lkS
  rw [pul_mem (lnk_ok _ _)]
  exact Rch.iff (fun a b => nbL_lnk _ V a b) fun _ => rfl
theorem con_rch (P : Fx) (V : List Dev) (z c : Str) (m : Int) : m ∈ conP P V z c ↔ Rch (fun a b => ∃ v ∈ V, cdB perhS z v = true ∧ lnkd v a b) (fxB P) (stB P [c, "x"]) m := by
  unfold conP lkP
  rw [pul_mem (lnk_ok _ _)]
  exact Rch.iff (fun a b => nbL_lnk _ V a b) fun _ => rfl
theorem sur_mono (ok : ∀ v ∈ V, DevOk n v) (h : LeV n z w) {c : Str} {m : Int} (hm : m ∈ surP P V z c) : m ∈ surP P V w c := by
  rw [sur_rch] at hm ⊢
  exact hm.mono (fun a b ⟨v, hv, hc, hl⟩ => ⟨v, hv, sure_mono h (ok v hv) hc, hl⟩) fun _ h => h
theorem con_mono (ok : ∀ v ∈ V, DevOk n v) (h : LeV n z w) {c : Str} {m : Int} (hm : m ∈ conP P V w c) : m ∈ conP P V z c := by
  rw [con_rch] at hm ⊢
  exact hm.mono (fun a b ⟨v, hv, hc, hl⟩ => ⟨v, hv, perh_mono h (ok v hv) hc, hl⟩) fun _ h => h
/-- net m is known to be c -/
def KnC (P : Fx) (V : List Dev) (z : Str) (m : Int) (c : Str) : Prop := ∃ q ∈ twoQ, c = q.1 ∧ m ∈ surP P V z q.1 ∧ m ∉ conP P V z q.2
theorem KnC.mono (ok : ∀ v ∈ V, DevOk n v) (h : LeV n z w) {m : Int} {c : Str} (k : KnC P V z m c) : KnC P V w m c := by
  obtain ⟨q, hq, e, h1, h2⟩ := k
  exact ⟨q, hq, e, sur_mono ok h h1, fun y => h2 (con_mono ok h y)⟩
theorem KnC.uniq {m : Int} {c d : Str} (h : KnC P V z m c) (h2 : KnC P V z m d) : c = d := by
  obtain ⟨q, hq, rfl, a1, a2⟩ := h
  obtain ⟨r, hr, rfl, b1, b2⟩ := h2
  unfold twoQ at hq hr
  simp only [List.mem_cons, List.not_mem_nil, or_false] at hq hr
  rcases hq with rfl | rfl <;> rcases hr with rfl | rfl
  · rfl
  · exact absurd (sur_con (P := P) (V := V) (vals := z) b1) a2
  · exact absurd (sur_con (P := P) (V := V) (vals := z) b1) a2
  · rfl
theorem KnC.sign {m : Int} {c : Str} (h : KnC P V z m c) : c = ("0" : Str) ∨ c = ("1" : Str) := by
  obtain ⟨q, hq, rfl, _⟩ := h
  unfold twoQ at hq
  simp only [List.mem_cons, List.not_mem_nil, or_false] at hq
  rcases hq with rfl | rfl
  · exact .inl rfl
  · exact .inr rfl
theorem knw_iff {m : Int} : fxB (knw P V z) m = true ↔ ∃ c, KnC P V z m c := by
  rw [knw_eq, fxB_app, Bool.or_eq_true, knQ_B, knQ_B, Bool.and_eq_true, Bool.and_eq_true, decide_eq_true_iff, decide_eq_true_iff, Bool.not_eq_true', decide_eq_false_iff_not, Bool.not_eq_true', decide_eq_false_iff_not]
  constructor
  · rintro (⟨h1, h2⟩ | ⟨h1, h2⟩)
    · exact ⟨_, ("0", "1"), by unfold twoQ; simp, rfl, h1, h2⟩
    · exact ⟨_, ("1", "0"), by unfold twoQ; simp, rfl, h1, h2⟩
  · rintro ⟨c, q, hq, rfl, h1, h2⟩
    unfold twoQ at hq
    simp only [List.mem_cons, List.not_mem_nil, or_false] at hq
    rcases hq with rfl | rfl
    · exact .inl ⟨h1, h2⟩
    · exact .inr ⟨h1, h2⟩
theorem knw_fv {m : Int} {c : Str} (h : KnC P V z m c) : fvS (knw P V z) m = c := by
  have hk := h
  obtain ⟨q, hq, rfl, h1, h2⟩ := h
  rw [knw_eq, fvS_app]
  unfold twoQ at hq
  simp only [List.mem_cons, List.not_mem_nil, or_false] at hq
  rcases hq with rfl | rfl
  · have e : fxB (knQ P V z ("0", "1")) m = true := by rw [knQ_B, Bool.and_eq_true, decide_eq_true_iff, Bool.not_eq_true', decide_eq_false_iff_not]; exact ⟨h1, h2⟩
    rw [if_pos e, knQ_v _ _ e]
  · have e : fxB (knQ P V z ("1", "0")) m = true := by rw [knQ_B, Bool.and_eq_true, decide_eq_true_iff, Bool.not_eq_true', decide_eq_false_iff_not]; exact ⟨h1, h2⟩
    have e0 : ¬ fxB (knQ P V z ("0", "1")) m = true := fun y => by
      rw [knQ_B, Bool.and_eq_true, decide_eq_true_iff, Bool.not_eq_true', decide_eq_false_iff_not] at y
      have a : KnC P V z m "0" := ⟨("0", "1"), by unfold twoQ; simp, rfl, y.1, y.2⟩
      have := a.uniq hk
      exact absurd this (by decide +kernel)
    rw [if_neg e0, knQ_v _ _ e]
theorem nv_kn {m : Int} {c : Str} (hf : fxB P m = false) (h : KnC P V z m c) : nvS P (knw P V z) m = c := by
  unfold nvS
  rw [if_neg (by rw [hf]; decide), if_pos (knw_iff.mpr ⟨c, h⟩), knw_fv h]
theorem nv_x {m : Int} (hf : fxB P m = false) (h : ∀ c, ¬ KnC P V z m c) : nvS P (knw P V z) m = "x" := by
  unfold nvS
  rw [if_neg (by rw [hf]; decide), if_neg (fun y => by obtain ⟨c, hc⟩ := knw_iff.mp y; exact h c hc)]
theorem nv_fx {m : Int} (hf : fxB P m = true) : nvS P (knw P V z) m = fvS P m := by unfold nvS; rw [if_pos hf]
end
structure GrpV (P : Fx) (V G : List Dev) (F : Int → Prop) : Prop where
  sub : ∀ v ∈ G, v ∈ V
  out : ∀ v ∈ G, (fxB P v.a = true ∨ F v.a) ∧ (fxB P v.b = true ∨ F v.b)
  all : ∀ v ∈ V, F v.a ∨ F v.b → v ∈ G
  free : ∀ m, F m → fxB P m = false
section
variable {P : Fx} {V G : List Dev} {F : Int → Prop} {p : Dev → Bool} {st : Int → Bool}
theorem GrpV.rch (g : GrpV P V G F) {m : Int} (h : Rch (fun a b => ∃ v ∈ V, p v = true ∧ lnkd v a b) (fxB P) st m) : F m → Rch (fun a b => ∃ v ∈ G, p v = true ∧ lnkd v a b) (fxB P) st m := by
  induction h with
  | @base a b hs he hf =>
    intro hF
    obtain ⟨v, hv, hp, hl⟩ := he
    have hG : v ∈ G := g.all v hv (by rcases hl with ⟨e1, e2⟩ | ⟨e1, e2⟩; exact .inr (e2 ▸ hF); exact .inl (e2 ▸ hF))
    exact .base hs ⟨v, hG, hp, hl⟩ hf
  | @step a b hr he hf ih =>
    intro hF
    obtain ⟨v, hv, hp, hl⟩ := he
    have hG : v ∈ G := g.all v hv (by rcases hl with ⟨e1, e2⟩ | ⟨e1, e2⟩; exact .inr (e2 ▸ hF); exact .inl (e2 ▸ hF))
    have ho := g.out v hG
    have hfa := hr.free
    have hFa : F a := by
      rcases hl with ⟨e1, e2⟩ | ⟨e1, e2⟩
      · rcases ho.1 with y | y
        · rw [e1, hfa] at y; cases y
        · exact e1 ▸ y
      · rcases ho.2 with y | y
        · rw [e1, hfa] at y; cases y
        · exact e1 ▸ y
    exact .step (ih hFa) ⟨v, hG, hp, hl⟩ hf
theorem GrpV.up (g : GrpV P V G F) {m : Int} (h : Rch (fun a b => ∃ v ∈ G, p v = true ∧ lnkd v a b) (fxB P) st m) : Rch (fun a b => ∃ v ∈ V, p v = true ∧ lnkd v a b) (fxB P) st m := h.mono (fun a b ⟨v, hv, hc, hl⟩ => ⟨v, g.sub v hv, hc, hl⟩) fun _ h => h
theorem GrpV.inF (g : GrpV P V G F) {m : Int} (h : Rch (fun a b => ∃ v ∈ G, p v = true ∧ lnkd v a b) (fxB P) st m) : F m := by
  have hf := h.free
  have key : ∃ v ∈ G, v.a = m ∨ v.b = m := by
    cases h with
    | base hs he _ => obtain ⟨v, hv, _, hl⟩ := he; exact ⟨v, hv, by rcases hl with ⟨_, e⟩ | ⟨_, e⟩; exact .inr e; exact .inl e⟩
    | step hr he _ => obtain ⟨v, hv, _, hl⟩ := he; exact ⟨v, hv, by rcases hl with ⟨_, e⟩ | ⟨_, e⟩; exact .inr e; exact .inl e⟩
  obtain ⟨v, hv, e⟩ := key
  have ho := g.out v hv
  rcases e with e | e
  · rcases ho.1 with y | y
    · rw [e, hf] at y; cases y
    · exact e ▸ y
  · rcases ho.2 with y | y
    · rw [e, hf] at y; cases y
    · exact e ▸ y
theorem GrpV.kn (g : GrpV P V G F) {z c : Str} {m : Int} : KnC P G z m c ↔ F m ∧ KnC P V z m c := by
  constructor
  · rintro ⟨q, hq, e, h1, h2⟩
    rw [sur_rch] at h1
    have hF := g.inF h1
    refine ⟨hF, q, hq, e, ?_, fun y => h2 ?_⟩
    · rw [sur_rch]; exact g.up h1
    · rw [con_rch] at y ⊢; exact g.rch y hF
  · rintro ⟨hF, q, hq, e, h1, h2⟩
    refine ⟨q, hq, e, ?_, fun y => h2 ?_⟩
    · rw [sur_rch] at h1 ⊢; exact g.rch h1 hF
    · rw [con_rch] at y ⊢; exact g.up y
end
def OneS (s : Str) : Prop := ∃ k : Nat, s = ⟨#[k]⟩
theorem sv_join {zs : List Str} (h : ∀ s ∈ zs, OneS s) : (Str.join "" zs).cps.toList.length = zs.length ∧ ∀ t : Nat, t < zs.length → vlS (Str.join "" zs) (t : Int) = zs.getD t "" := by
  rw [acc_join]
  have e := acc_cps zs
  unfold vlS
  rw [e]
  clear e
  induction zs with
  | nil => exact ⟨rfl, fun t ht => absurd ht (by simp)⟩
  | cons a zs ih =>
    obtain ⟨k, hk⟩ := h a List.mem_cons_self
    obtain ⟨i1, i2⟩ := ih fun s hs => h s (List.mem_cons_of_mem _ hs)
    subst hk
    refine ⟨?_, fun t ht => ?_⟩
    · rw [List.map_cons, List.flatten_cons, List.length_append, i1]
      show 1 + zs.length = zs.length + 1
      omega
    · cases t with
      | zero => rfl
      | succ t =>
        have := i2 t (by rw [List.length_cons] at ht; omega)
        rw [List.map_cons, List.flatten_cons]
        show (⟨#[([k] ++ (List.map (fun z : Str => z.cps.toList) zs).flatten).getD ((t + 1 : Nat) : Int).toNat 0]⟩ : Str) = zs.getD t ""
        rw [← this, Int.toNat_natCast, Int.toNat_natCast]
        rfl
/-- equal sign by sign -/
theorem sv_signs {a b : Str} {n : Nat} (ha : a.cps.toList.length = n) (hb : b.cps.toList.length = n) (h : ∀ m : Int, 0 ≤ m → m < (n : Int) → vlS a m = vlS b m) : a = b := by
  have e : a.cps.toList = b.cps.toList := by
    refine List.ext_getElem (by omega) fun t h1 h2 => ?_
    have := h (t : Int) (by omega) (by omega)
    unfold vlS at this
    have e1 := congrArg (fun s : Str => s.cps.toList) this
    simp only [Int.toNat_natCast, List.cons.injEq, and_true, List.getD_eq_getElem?_getD, List.getElem?_eq_getElem h1, List.getElem?_eq_getElem h2, Option.getD_some] at e1
    exact e1
  have e2 : a.cps = b.cps := Array.ext' e
  cases a; cases b
  simp only at e2
  rw [e2]
section
variable {n : Nat} {P : Fx} {V : List Dev}
/-- what fixed values are -/
structure FxS (P : Fx) : Prop where
  one : ∀ m, fxB P m = true → OneS (fvS P m)
theorem nv_one (hP : FxS P) (z : Str) (m : Int) : OneS (nvS P (knw P V z) m) := by
  by_cases hf : fxB P m = true
  · rw [nv_fx hf]; exact hP.one m hf
  · have hf : fxB P m = false := by simpa using hf
    by_cases h : ∃ c, KnC P V z m c
    · obtain ⟨c, hc⟩ := h
      rw [nv_kn hf hc]
      rcases hc.sign with rfl | rfl
      · exact ⟨48, sg_0⟩
      · exact ⟨49, sg_1⟩
    · rw [nv_x hf fun c hc => h ⟨c, hc⟩]; exact ⟨120, sg_x⟩
def nxV (n : Nat) (V : List Dev) (P : Fx) (z : Str) : Str := Str.join "" (nxL (n : Int) V P z)
theorem nxV_len (hP : FxS P) (z : Str) : (nxV n V P z).cps.toList.length = n := by
  unfold nxV
  rw [(sv_join fun s hs => ?_).1]
  · unfold nxL; rw [List.length_map, List.length_range, Int.toNat_natCast]
  · unfold nxL at hs
    obtain ⟨t, _, rfl⟩ := List.mem_map.mp hs
    exact nv_one hP z _
theorem nxV_at (hP : FxS P) (z : Str) {m : Int} (h0 : 0 ≤ m) (h1 : m < (n : Int)) : vlS (nxV n V P z) m = nvS P (knw P V z) m := by
  have ho : ∀ s ∈ nxL (n : Int) V P z, OneS s := fun s hs => by
    unfold nxL at hs
    obtain ⟨t, _, rfl⟩ := List.mem_map.mp hs
    exact nv_one hP z _
  have hl : (nxL (n : Int) V P z).length = n := by unfold nxL; rw [List.length_map, List.length_range, Int.toNat_natCast]
  have := (sv_join ho).2 m.toNat (by omega)
  rw [show ((m.toNat : Nat) : Int) = m by omega] at this
  unfold nxV
  rw [this]
  unfold nxL
  rw [List.getD_eq_getElem?_getD, List.getElem?_map, List.getElem?_range (by omega)]
  show nvS P (knw P V z) ((m.toNat : Nat) : Int) = _
  rw [show ((m.toNat : Nat) : Int) = m by omega]
/-- nothing more becomes known -/
structure Clo1 (n : Nat) (V : List Dev) (P : Fx) (w : Str) : Prop where
  fx : ∀ m, 0 ≤ m → m < (n : Int) → fxB P m = true → vlS w m = fvS P m
  cl : ∀ m c, 0 ≤ m → m < (n : Int) → fxB P m = false → KnC P V w m c → vlS w m = c
/-- what is known is known for a reason: every closed u knows it -/
def Jst (n : Nat) (V : List Dev) (P : Fx) (w : Str) : Prop := ∀ u, Clo1 n V P u → LeV (n : Int) w u
def z0S (n : Nat) (P : Fx) : Str := Str.join "" ((List.range n).map fun (t : Nat) => if fxB P (t : Int) = true then fvS P (t : Int) else "x")
theorem z0_all (hP : FxS P) : ∀ s ∈ (List.range n).map (fun (t : Nat) => if fxB P (t : Int) = true then fvS P (t : Int) else ("x" : Str)), OneS s := fun s hs => by
  obtain ⟨t, _, rfl⟩ := List.mem_map.mp hs
  split
  · rename_i h; exact hP.one _ h
  · exact ⟨120, sg_x⟩
theorem z0_len (hP : FxS P) : (z0S n P).cps.toList.length = n := by
  unfold z0S
  rw [(sv_join (z0_all hP)).1, List.length_map, List.length_range]
theorem z0_at (hP : FxS P) {m : Int} (h0 : 0 ≤ m) (h1 : m < (n : Int)) : vlS (z0S n P) m = if fxB P m = true then fvS P m else "x" := by
  have := (sv_join (z0_all (n := n) hP)).2 m.toNat (by rw [List.length_map, List.length_range]; omega)
  rw [show ((m.toNat : Nat) : Int) = m by omega] at this
  unfold z0S
  rw [this, List.getD_eq_getElem?_getD, List.getElem?_map, List.getElem?_range (by omega)]
  show (if fxB P ((m.toNat : Nat) : Int) = true then fvS P ((m.toNat : Nat) : Int) else ("x" : Str)) = _
  rw [show ((m.toNat : Nat) : Int) = m by omega]
theorem z0_jst (hP : FxS P) : Jst n V P (z0S n P) := fun u hu m h0 h1 hx => by
  rw [z0_at hP h0 h1] at hx ⊢
  by_cases hf : fxB P m = true
  · rw [if_pos hf]; exact hu.fx m h0 h1 hf
  · rw [if_neg hf] at hx; exact absurd rfl hx
theorem nx_jst (hP : FxS P) (ok : ∀ v ∈ V, DevOk (n : Int) v) {z : Str} (h : Jst n V P z) : Jst n V P (nxV n V P z) := fun u hu m h0 h1 hx => by
  rw [nxV_at hP z h0 h1] at hx ⊢
  by_cases hf : fxB P m = true
  · rw [nv_fx hf]; exact hu.fx m h0 h1 hf
  · have hf : fxB P m = false := by simpa using hf
    by_cases hk : ∃ c, KnC P V z m c
    · obtain ⟨c, hc⟩ := hk
      rw [nv_kn hf hc]
      exact hu.cl m c h0 h1 hf (hc.mono ok (h u hu))
    · rw [nv_x hf fun c hc => hk ⟨c, hc⟩] at hx; exact absurd rfl hx
theorem nx_clo (hP : FxS P) {z : Str} (h : nxV n V P z = z) : Clo1 n V P z := by
  refine ⟨fun m h0 h1 hf => ?_, fun m c h0 h1 hf hk => ?_⟩
  · rw [← nv_fx (V := V) (z := z) hf, ← nxV_at hP z h0 h1, h]
  · rw [← nv_kn hf hk, ← nxV_at hP z h0 h1, h]
theorem nx_le (hP : FxS P) (ok : ∀ v ∈ V, DevOk (n : Int) v) {z w : Str} (h : LeV (n : Int) z w) : LeV (n : Int) (nxV n V P z) (nxV n V P w) := fun m h0 h1 hx => by
  rw [nxV_at hP z h0 h1] at hx ⊢
  rw [nxV_at hP w h0 h1]
  by_cases hf : fxB P m = true
  · rw [nv_fx hf, nv_fx hf]
  · have hf : fxB P m = false := by simpa using hf
    by_cases hk : ∃ c, KnC P V z m c
    · obtain ⟨c, hc⟩ := hk
      rw [nv_kn hf hc, nv_kn hf (hc.mono ok h)]
    · rw [nv_x hf fun c hc => hk ⟨c, hc⟩] at hx; exact absurd rfl hx
theorem z0_le (hP : FxS P) : LeV (n : Int) (z0S n P) (nxV n V P (z0S n P)) := fun m h0 h1 hx => by
  rw [z0_at hP h0 h1] at hx ⊢
  by_cases hf : fxB P m = true
  · rw [if_pos hf, nxV_at hP _ h0 h1, nv_fx hf]
  · rw [if_neg hf] at hx; exact absurd rfl hx
/-- the law's rounds -/
def itZ (n : Nat) (V : List Dev) (P : Fx) : Nat → Str
  | 0 => z0S n P
  | t + 1 => nxV n V P (itZ n V P t)
theorem it_len (hP : FxS P) : ∀ t, (itZ n V P t).cps.toList.length = n
  | 0 => z0_len hP
  | _ + 1 => nxV_len hP _
theorem it_le (hP : FxS P) (ok : ∀ v ∈ V, DevOk (n : Int) v) : ∀ t, LeV (n : Int) (itZ n V P t) (itZ n V P (t + 1))
  | 0 => z0_le hP
  | t + 1 => nx_le hP ok (it_le hP ok t)
theorem it_jst (hP : FxS P) (ok : ∀ v ∈ V, DevOk (n : Int) v) : ∀ t, Jst n V P (itZ n V P t)
  | 0 => z0_jst hP
  | t + 1 => nx_jst hP ok (it_jst hP ok t)
/-- how many nets are known -/
def cntKn (n : Nat) (z : Str) : Nat := ((List.range n).filter fun (t : Nat) => decide (vlS z (t : Int) ≠ ("x" : Str))).length
theorem cntKn_le (n : Nat) (z : Str) : cntKn n z ≤ n := by
  unfold cntKn
  have := List.length_filter_le (fun (t : Nat) => decide (vlS z (t : Int) ≠ ("x" : Str))) (List.range n)
  rwa [List.length_range] at this
theorem sv_filt {p q : Nat → Bool} : ∀ {l : List Nat}, (∀ t ∈ l, p t = true → q t = true) → (l.filter p).length ≤ (l.filter q).length ∧ ((∃ t ∈ l, p t = false ∧ q t = true) → (l.filter p).length < (l.filter q).length)
  | [], _ => ⟨Nat.le_refl _, fun ⟨_, h, _⟩ => by cases h⟩
  | a :: l, h => by
    obtain ⟨i1, i2⟩ := sv_filt (p := p) (q := q) (l := l) fun t ht => h t (List.mem_cons_of_mem _ ht)
    have ha := h a List.mem_cons_self
    rw [List.filter_cons, List.filter_cons]
    cases ep : p a with
    | true =>
      rw [if_pos rfl, if_pos (ha ep)]
      simp only [List.length_cons]
      refine ⟨by omega, fun ⟨t, ht, h1, h2⟩ => ?_⟩
      rcases List.mem_cons.mp ht with rfl | ht
      · rw [ep] at h1; cases h1
      · have := i2 ⟨t, ht, h1, h2⟩; omega
    | false =>
      rw [if_neg (by simp)]
      cases eq : q a with
      | true =>
        rw [if_pos rfl]
        simp only [List.length_cons]
        exact ⟨by omega, fun _ => by omega⟩
      | false =>
        rw [if_neg (by simp)]
        refine ⟨i1, fun ⟨t, ht, h1, h2⟩ => ?_⟩
        rcases List.mem_cons.mp ht with rfl | ht
        · rw [eq] at h2; cases h2
        · exact i2 ⟨t, ht, h1, h2⟩
theorem sv_up {z w : Str} (h : LeV (n : Int) z w) : cntKn n z ≤ cntKn n w ∧ ((∃ m : Int, 0 ≤ m ∧ m < (n : Int) ∧ vlS z m = "x" ∧ vlS w m ≠ "x") → cntKn n z < cntKn n w) := by
  have := sv_filt (p := fun (t : Nat) => decide (vlS z (t : Int) ≠ ("x" : Str))) (q := fun (t : Nat) => decide (vlS w (t : Int) ≠ ("x" : Str))) (l := List.range n) fun t ht hp => by
    have ht := List.mem_range.mp ht
    have hx := of_decide_eq_true hp
    refine decide_eq_true ?_
    rw [h (t : Int) (by omega) (by omega) hx]; exact hx
  refine ⟨this.1, fun ⟨m, h0, h1, h2, h3⟩ => this.2 ⟨m.toNat, List.mem_range.mpr (by omega), ?_, ?_⟩⟩
  · rw [show ((m.toNat : Nat) : Int) = m by omega]; exact decide_eq_false fun y => y h2
  · rw [show ((m.toNat : Nat) : Int) = m by omega]; exact decide_eq_true h3
theorem sv_same {z w : Str} (hz : z.cps.toList.length = n) (hw : w.cps.toList.length = n) (h : LeV (n : Int) z w) (e : cntKn n w ≤ cntKn n z) : z = w := by
  refine sv_signs hz hw fun m h0 h1 => ?_
  by_cases hx : vlS z m = ("x" : Str)
  · by_cases hy : vlS w m = ("x" : Str)
    · rw [hx, hy]
    · have := (sv_up h).2 ⟨m, h0, h1, hx, hy⟩
      omega
  · exact (h m h0 h1 hx).symm
theorem it_stop (hP : FxS P) (ok : ∀ v ∈ V, DevOk (n : Int) v) : ∀ t, t ≤ cntKn n (itZ n V P t) ∨ nxV n V P (itZ n V P t) = itZ n V P t
  | 0 => .inl (Nat.zero_le _)
  | t + 1 => by
    rcases it_stop hP ok t with h | h
    · by_cases e : cntKn n (itZ n V P (t + 1)) ≤ cntKn n (itZ n V P t)
      · have := sv_same (it_len hP t) (it_len hP (t + 1)) (it_le hP ok t) e
        exact .inr (by rw [← this]; exact this.symm)
      · exact .inl (by omega)
    · refine .inr ?_
      show nxV n V P (nxV n V P (itZ n V P t)) = nxV n V P (itZ n V P t)
      rw [h, h]
theorem it_end (hP : FxS P) (ok : ∀ v ∈ V, DevOk (n : Int) v) : nxV n V P (itZ n V P (n + 1)) = itZ n V P (n + 1) := by
  rcases it_stop hP ok (n + 1) with h | h
  · have := cntKn_le n (itZ n V P (n + 1)); omega
  · exact h
/-- what is closed and justified is the law's end -/
theorem settled_eq (hP : FxS P) (ok : ∀ v ∈ V, DevOk (n : Int) v) {w : Str} (hl : w.cps.toList.length = n) (c : Clo1 n V P w) (j : Jst n V P w) : w = itZ n V P (n + 1) := by
  have c2 := nx_clo hP (it_end hP ok)
  have j2 := it_jst (V := V) hP ok (n + 1)
  refine sv_signs hl (it_len hP _) fun m h0 h1 => ?_
  by_cases hx : vlS w m = ("x" : Str)
  · by_cases hy : vlS (itZ n V P (n + 1)) m = ("x" : Str)
    · rw [hx, hy]
    · exact (j2 w c m h0 h1 hy)
  · exact (j _ c2 m h0 h1 hx).symm
end
end DL
namespace DL
open PySem PySem.Spec PyProof.Rows L2
theorem fo_fxs {n : Nat} {P : Fx} (h : FOk n P) : FxS P := ⟨fun m hm => by obtain ⟨c, e, _⟩ := h.v _ (fvS_in hm); exact ⟨c, e⟩⟩
def Sg1 (s : Str) : Prop := ∃ k : Nat, s = ⟨#[k]⟩ ∧ (k = 48 ∨ k = 49 ∨ k = 120)
theorem sgn_of {s : Str} {n : Nat} (hl : s.cps.toList.length = n) (h : ∀ m : Int, 0 ≤ m → m < (n : Int) → Sg1 (vlS s m)) : Sgn s := fun c hc => by
  obtain ⟨t, ht⟩ := List.getElem?_of_mem hc
  obtain ⟨hlt, e⟩ := List.getElem?_eq_some_iff.mp ht
  obtain ⟨k, e2, h3⟩ := h (t : Int) (by omega) (by omega)
  unfold vlS at e2
  have e1 := congrArg (fun s : Str => s.cps.toList) e2
  simp only [Int.toNat_natCast, List.cons.injEq, and_true, List.getD_eq_getElem?_getD, ht, Option.getD_some] at e1
  rw [e1]; exact h3
section
variable {n : Nat} {P : Fx} {V : List Dev}
theorem fv_sg (h : FOk n P) {m : Int} (hm : fxB P m = true) : Sg1 (fvS P m) := by obtain ⟨c, e, h2⟩ := h.v _ (fvS_in hm); exact ⟨c, e, h2⟩
theorem nv_sg (h : FOk n P) (z : Str) (m : Int) : Sg1 (nvS P (knw P V z) m) := by
  by_cases hf : fxB P m = true
  · rw [nv_fx hf]; exact fv_sg h hf
  · have hf : fxB P m = false := by simpa using hf
    by_cases hk : ∃ c, KnC P V z m c
    · obtain ⟨c, hc⟩ := hk
      rw [nv_kn hf hc]
      rcases hc.sign with rfl | rfl
      · exact ⟨48, sg_0, .inl rfl⟩
      · exact ⟨49, sg_1, .inr (.inl rfl)⟩
    · rw [nv_x hf fun c hc => hk ⟨c, hc⟩]; exact ⟨120, sg_x, .inr (.inr rfl)⟩
theorem it_sgn (h : FOk n P) : ∀ t, Sgn (itZ n V P t)
  | 0 => sgn_of (z0_len (fo_fxs h)) fun m h0 h1 => by
    show Sg1 (vlS (z0S n P) m)
    rw [z0_at (fo_fxs h) h0 h1]
    split
    · rename_i hf; exact fv_sg h hf
    · exact ⟨120, sg_x, .inr (.inr rfl)⟩
  | t + 1 => sgn_of (nxV_len (fo_fxs h) _) fun m h0 h1 => by
    show Sg1 (vlS (nxV n V P (itZ n V P t)) m)
    rw [nxV_at (fo_fxs h) _ h0 h1]; exact nv_sg h _ m
theorem it_fx (h : FOk n P) (t : Nat) {m : Int} (h0 : 0 ≤ m) (h1 : m < (n : Int)) (hf : fxB P m = true) : vlS (itZ n V P t) m = fvS P m := by
  cases t with
  | zero => show vlS (z0S n P) m = _; rw [z0_at (fo_fxs h) h0 h1, if_pos hf]
  | succ t => show vlS (nxV n V P _) m = _; rw [nxV_at (fo_fxs h) _ h0 h1, nv_fx hf]
theorem it_agr (ok : ∀ v ∈ V, DevOk (n : Int) v) (h : FOk n P) (t : Nat) : Agr n V P (itZ n V P t) :=
  ⟨ok, by rw [it_len (fo_fxs h)], it_sgn h t, h.k, fun m hm => by
    have hb := h.k _ (fvS_in hm)
    rw [← it_fx (V := V) h t hb.1 hb.2 hm]; rfl⟩
theorem it_next (ok : ∀ v ∈ V, DevOk (n : Int) v) (h : FOk n P) (t : Nat) : accS (qnL n V P (itZ n V P t) n) = itZ n V P (t + 1) := (nx_same (it_agr ok h t)).symm
/-- fixed values as the law reads them -/
def zF (P : Fx) (t : Nat) : Str := if fxB P (t : Int) = true then fvS P (t : Int) else "x"
theorem z0_room (h : FOk n P) (hn : n ≤ 200) : sumL ((List.range n).map (zF P)) + ((List.range n).map (zF P)).length * ("" : Str).length ≤ 16777216 := by
  have h1 : sumL ((List.range n).map (zF P)) ≤ ((List.range n).map (zF P)).length := sumL_1 fun z hz => by
    obtain ⟨k, e⟩ := z0_all (fo_fxs h) z hz
    rw [e]; exact Nat.le_of_eq (one_len k)
  have e : ("" : Str).length = 0 := by decide +kernel
  rw [e, List.length_map, List.length_range] at *
  omega
end
end DL
namespace DL
open PySem PySem.Spec PyProof.Rows L2
abbrev ep (p : Sq) : D := .etp [.int p.1, .int p.2]
end DL
namespace DL
open PySem PySem.Spec PyProof.Rows L2
def nb4 (q : Sq) : List Sq := [(q.1 + 1, q.2), (q.1 - 1, q.2), (q.1, q.2 + 1), (q.1, q.2 - 1)]
/-- before, line by line -/
def LtL (a b : Sq) : Prop := a.2 < b.2 ∨ (a.2 = b.2 ∧ a.1 < b.1)
/-- classes of squares: what is joined -/
structure Cls (Q : List Sq) (cls : Sq → Nat) (rs : List Nat) (c : Nat → Sq) : Prop where
  nd : Q.Nodup
  near : ∀ q ∈ Q, ∀ r ∈ nb4 q, r ∈ Q → cls r = cls q
  conn : ∀ C : Sq → Prop, ∀ q ∈ Q, C q → (∀ p ∈ Q, C p → ∀ r ∈ nb4 p, r ∈ Q → C r) → ∀ p ∈ Q, cls p = cls q → C p
  cin : ∀ r ∈ rs, c r ∈ Q ∧ cls (c r) = r
  all : ∀ q ∈ Q, cls q ∈ rs ∧ (c (cls q) = q ∨ LtL (c (cls q)) q)
  ord : rs.Pairwise fun r s => LtL (c r) (c s)
end DL
namespace DZ
open PySem
open PySem.Sem (wp)
def HS (b : Bool) (h : Heap) (l : Addr) (xs : Array Value) : Prop := match b with | true => h.IsList l xs | false => h.IsTuple l xs
def HI (b : Bool) (h : Heap) (i l : Addr) (k : Nat) : Prop := match b with | true => h.IsListIter i l k | false => h.IsTupleIter i l k
def iterN (b : Bool) : String := match b with | true => "list_iterator" | false => "tuple_iterator"
theorem HS.at {b : Bool} {h h' : Heap} {l : Addr} {xs : Array Value} (x : HS b h l xs) (e : ∀ o, h.get? l = some o → h'.get? l = some o) : HS b h' l xs := by
  cases b
  · exact Heap.IsTuple.at x e
  · exact Heap.IsList.at x e
theorem HI.at {b : Bool} {h h' : Heap} {i l : Addr} {k : Nat} (x : HI b h i l k) (e : ∀ o, h.get? i = some o → h'.get? i = some o) : HI b h' i l k := by
  cases b
  · exact Heap.IsTupleIter.at x e
  · exact Heap.IsListIter.at x e
theorem HI.lt {b : Bool} {h : Heap} {i l : Addr} {k : Nat} (x : HI b h i l k) : i < h.objs.size := by
  cases b
  · obtain ⟨_, e, _⟩ := (x : h.IsTupleIter i l k); exact Heap.lt_size e
  · obtain ⟨_, e, _⟩ := (x : h.IsListIter i l k); exact Heap.lt_size e
theorem HI.obj {b : Bool} {h : Heap} {i l : Addr} {k : Nat} (x : HI b h i l k) : ∃ o, h.get? i = some o ∧ ∀ v, o.data ≠ .seq v := by
  cases b
  · obtain ⟨o, e, _, d⟩ := (x : h.IsTupleIter i l k); exact ⟨o, e, fun v q => by rw [d] at q; cases q⟩
  · obtain ⟨o, e, _, d⟩ := (x : h.IsListIter i l k); exact ⟨o, e, fun v q => by rw [d] at q; cases q⟩
section
variable {prog : Program} {w : World} {A : Around} {E : Value → Shared → Prop} {s : Shared}
theorem nx_item {b : Bool} {i l : Addr} {k : Nat} {xs : Array Value} {x : Value} {Q : Value → Shared → Prop} (hi : HI b s.heap i l k) (hl : HS b s.heap l xs) (hx : xs[k]? = some x)
    (hQ : ∀ h', HI b h' i l (k + 1) → Heap.SameBut i s.heap h' → Q x { s with heap := h' }) : wpAny (model prog w) A (Builtin.SmallTypes.nextOf (.ref i)) Q E s := by
  cases b
  · exact RZ.nextOf_tuple_item hi hl hx hQ
  · exact wpAny_nextOf_list_item hi hl hx hQ
theorem nx_end {b : Bool} {i l : Addr} {k : Nat} {xs : Array Value} {Q : Value → Shared → Prop} (hh : A.handled = none) (hi : HI b s.heap i l k) (hl : HS b s.heap l xs) (hx : xs[k]? = none)
    (hE : ∀ h' e, Heap.ExtBut i s.heap h' → (∃ o, h'.get? e = some o ∧ o.cls = .type "StopIteration") → E (.ref e) { s with heap := h' }) : wpAny (model prog w) A (Builtin.SmallTypes.nextOf (.ref i)) Q E s := by
  cases b
  · exact RZ.nextOf_tuple_end hh hi hl hx hE
  · exact wpAny_nextOf_list_end hh hi hl hx hE
/-- what a turn of zip may touch -/
def KeepZ (z TO i1 i2 : Addr) (h h' : Heap) : Prop := ∀ c o, c ≠ z → c ≠ TO → c ≠ i1 → c ≠ i2 → h.get? c = some o → h'.get? c = some o
/-- the first half of a turn: z is marked, the first item is asked -/
theorem turn_item {b1 b2 : Bool} {z TI TO i1 i2 l1 l2 : Addr} {k1 k2 : Nat} {xs ys : Array Value} {x y u v : Value} {Q : Value → Shared → Prop} (D : ZipApart z TI TO i1 i2 l1 l2)
    (hz : IsZip s.heap z TI TO .none) (hTI : IsPair s.heap TI (.ref i1) (.ref i2)) (hTO : IsPair s.heap TO u v) (h1 : HI b1 s.heap i1 l1 k1) (h2 : HI b2 s.heap i2 l2 k2) (hl1 : HS b1 s.heap l1 xs) (hl2 : HS b2 s.heap l2 ys) (hx : xs[k1]? = some x) (hy : ys[k2]? = some y)
    (hQ : ∀ h', IsZip h' z TI TO (rawInt s.heap.objs.size) → IsPair h' TO x y → HI b1 h' i1 l1 (k1 + 1) → HI b2 h' i2 l2 (k2 + 1) → IsPair h' s.heap.objs.size x y → h'.objs.size = s.heap.objs.size + 1 → KeepZ z TO i1 i2 s.heap h' → Q (.ref s.heap.objs.size) { s with heap := h' }) :
    wpAny (model prog w) A (Builtin.«zip.__next__» ⟨[.ref z], []⟩) (fun fin s' => ∃ v, fin = .done (.ret v) ∧ Q v s') E s := by
  show wpAny _ _ (field (.ref z) 2 >>= _) _ _ _
  refine wpAny_bind (wpAny_field hz rfl (x := .bool false) rfl ?_)
  show wpAny _ _ (field (.ref z) 3 >>= _) _ _ _
  refine wpAny_bind (wpAny_field hz rfl (x := .ref TI) rfl (wpAny_bind (wpAny_seqItems hTI rfl ?_)))
  show wpAny _ _ (Builtin.SmallTypes.ownedTupleIsFree (.ref z) >>= _) _ _ _
  unfold Builtin.SmallTypes.ownedTupleIsFree
  refine wpAny_bind (wpAny_bind (wpAny_field hz rfl (x := .none) rfl (wpAny_pure ?_)))
  simp only [if_true]
  refine wpAny_bind (wpAny_rule (wpAny_bind (wpAny_field hz rfl (x := .ref TO) rfl (wpAny_bind (wpAny_setField_rec hz (by simp) fun g1 z1 s1 => ?_)))))
  replace z1 : IsZip g1 z TI TO .ellipsis := z1
  have x1 : ∀ c o, c ≠ z → s.heap.get? c = some o → g1.get? c = some o := s1.extBut
  simp only [List.zipIdx_cons, List.zipIdx_nil, List.forIn_cons, List.forIn_nil]
  refine wpAny_bind (wpAny_bind (wpAny_bind (wpAny_onRaise ?_)))
  show wpAny _ _ (Builtin.SmallTypes.nextOf (.ref i1) >>= _) _ _ _
  refine wpAny_bind (nx_item (h1.at fun o e => x1 _ o D.i1z e) (hl1.at fun o e => x1 _ o D.l1z e) hx fun g2 n1 s2 => wpAny_pure ?_)
  have x2 : ∀ c o, c ≠ z → c ≠ i1 → s.heap.get? c = some o → g2.get? c = some o := fun c o a b e => s2.extBut c o b (x1 c o a e)
  have t2 : IsPair g2 TO u v := x2 _ _ D.TOz D.TOi1 hTO
  refine wpAny_bind (wpAny_seqItems t2 rfl (wpAny_bind (wpAny_updateSeq_pair t2 fun g3 t3 s3 => ?_)))
  replace t3 : IsPair g3 TO x v := t3
  have x3 : ∀ c o, c ≠ z → c ≠ TO → c ≠ i1 → s.heap.get? c = some o → g3.get? c = some o := fun c o a b d e => s3.extBut c o b (x2 c o a d e)
  refine wpAny_bind (wpAny_letGo (wpAny_pure (wpAny_bind (wpAny_bind (wpAny_onRaise ?_)))))
  show wpAny _ _ (Builtin.SmallTypes.nextOf (.ref i2) >>= _) _ _ _
  refine wpAny_bind (nx_item (h2.at fun o e => x3 _ o D.i2z D.TOi2.symm D.i12.symm e) (hl2.at fun o e => x3 _ o D.l2z D.l2TO D.l2i1 e) hy fun g4 n2 s4 => wpAny_pure ?_)
  have t4 : IsPair g4 TO x v := s4.extBut _ _ D.TOi2 t3
  refine wpAny_bind (wpAny_seqItems t4 rfl (wpAny_bind (wpAny_updateSeq_pair t4 fun g5 t5 s5 => ?_)))
  replace t5 : IsPair g5 TO x y := t5
  have x5 : ∀ c o, c ≠ z → c ≠ TO → c ≠ i1 → c ≠ i2 → s.heap.get? c = some o → g5.get? c = some o := fun c o a b d f e => s5.extBut c o b (s4.extBut c o f (x3 c o a b d e))
  refine wpAny_bind (wpAny_letGo (wpAny_pure (wpAny_pure ?_)))
  refine wpAny_bind (wpAny_seqItems t5 rfl (wpAny_bind (wpAny_newTuple ?_)))
  have z5 : IsZip g5 z TI TO .ellipsis := s5.extBut _ _ D.TOz.symm (s4.extBut _ _ D.i2z.symm (s3.extBut _ _ D.TOz.symm (s2.extBut _ _ D.i1z.symm z1)))
  have size : g5.objs.size = s.heap.objs.size := by rw [s5.1, s4.1, s3.1, s2.1, s1.1]
  have m1 : HI b1 g5 i1 l1 (k1 + 1) := n1.at fun o e => s5.extBut _ o D.TOi1.symm (s4.extBut _ o D.i12 (s3.extBut _ o D.TOi1.symm e))
  have m2 : HI b2 g5 i2 l2 (k2 + 1) := n2.at fun o e => s5.extBut _ o D.TOi2.symm e
  show wpAny _ _ (Builtin.SmallTypes.ownedTupleHandOut (.ref z) (.ref g5.objs.size) >>= _) _ _ _
  unfold Builtin.SmallTypes.ownedTupleHandOut
  have z6 : IsZip (g5.push { cls := .type "tuple", data := .seq #[x, y] }) z TI TO .ellipsis := Heap.get?_push_of_some _ z5
  refine wpAny_bind (wpAny_bind (wpAny_setField_rec z6 (by simp) fun g7 z7 s7 => ?_))
  replace z7 : IsZip g7 z TI TO (rawInt g5.objs.size) := z7
  refine wpAny_setField_rec z7 (by simp) fun g8 z8 s8 => ?_
  replace z8 : IsZip g8 z TI TO (rawInt g5.objs.size) := z8
  have x8 : ∀ c o, c ≠ z → g5.get? c = some o → g8.get? c = some o := fun c o a e => s8.extBut c o a (s7.extBut c o a (Heap.get?_push_of_some _ e))
  have t8 : IsPair g8 g5.objs.size x y := s8.extBut _ _ (Nat.ne_of_gt (Heap.lt_size z5)) (s7.extBut _ _ (Nat.ne_of_gt (Heap.lt_size z5)) (Heap.get?_push_size _ rfl))
  have n8 : g8.objs.size = g5.objs.size + 1 := by rw [s8.1, s7.1, Heap.size_push]
  rw [size] at z8 t8 n8
  refine wpAny_pure ⟨_, rfl, ?_⟩
  show Q (.ref g5.objs.size) _
  rw [size]
  exact hQ g8 z8 (x8 _ _ D.TOz t5) (m1.at fun o e => x8 _ o D.i1z e) (m2.at fun o e => x8 _ o D.i2z e) t8 n8 fun c o a b d f e => x8 c o a (x5 c o a b d f e)
theorem turn_end {b1 b2 : Bool} {z TI TO i1 i2 l1 l2 : Addr} {k1 k2 : Nat} {xs ys : Array Value} {u v : Value} {Q : Fin → Shared → Prop} (hh : A.handled = none) (D : ZipApart z TI TO i1 i2 l1 l2)
    (hz : IsZip s.heap z TI TO .none) (hTI : IsPair s.heap TI (.ref i1) (.ref i2)) (hTO : IsPair s.heap TO u v) (h1 : HI b1 s.heap i1 l1 k1) (h2 : HI b2 s.heap i2 l2 k2) (hl1 : HS b1 s.heap l1 xs) (hl2 : HS b2 s.heap l2 ys) (hend : xs[k1]? = none ∨ ys[k2]? = none)
    (hE : ∀ h' e, KeepZ z TO i1 i2 s.heap h' → (∃ o, h'.get? e = some o ∧ o.cls = .type "StopIteration") → E (.ref e) { s with heap := h' }) :
    wpAny (model prog w) A (Builtin.«zip.__next__» ⟨[.ref z], []⟩) Q E s := by
  show wpAny _ _ (field (.ref z) 2 >>= _) _ _ _
  refine wpAny_bind (wpAny_field hz rfl (x := .bool false) rfl ?_)
  show wpAny _ _ (field (.ref z) 3 >>= _) _ _ _
  refine wpAny_bind (wpAny_field hz rfl (x := .ref TI) rfl (wpAny_bind (wpAny_seqItems hTI rfl ?_)))
  show wpAny _ _ (Builtin.SmallTypes.ownedTupleIsFree (.ref z) >>= _) _ _ _
  unfold Builtin.SmallTypes.ownedTupleIsFree
  refine wpAny_bind (wpAny_bind (wpAny_field hz rfl (x := .none) rfl (wpAny_pure ?_)))
  simp only [if_true]
  refine wpAny_bind (wpAny_rule (wpAny_bind (wpAny_field hz rfl (x := .ref TO) rfl (wpAny_bind (wpAny_setField_rec hz (by simp) fun g1 z1 s1 => ?_)))))
  replace z1 : IsZip g1 z TI TO .ellipsis := z1
  have x1 : ∀ c o, c ≠ z → s.heap.get? c = some o → g1.get? c = some o := s1.extBut
  simp only [List.zipIdx_cons, List.zipIdx_nil, List.forIn_cons, List.forIn_nil]
  refine wpAny_bind (wpAny_bind (wpAny_bind (wpAny_onRaise ?_)))
  show wpAny _ _ (Builtin.SmallTypes.nextOf (.ref i1) >>= _) _ _ _
  have H1 : HI b1 g1 i1 l1 k1 := h1.at fun o e => x1 _ o D.i1z e
  have L1 : HS b1 g1 l1 xs := hl1.at fun o e => x1 _ o D.l1z e
  by_cases hx : xs[k1]? = none
  · refine wpAny_bind (nx_end hh H1 L1 hx fun g2 e s2 ⟨oe, he, ce⟩ => ?_)
    have z2 : IsZip g2 z TI TO .ellipsis := s2 _ _ D.i1z.symm z1
    have ez : e ≠ z := fun q => by rw [q, z2] at he; cases he; simp at ce
    exact wpAny_setField_rec z2 (by simp) fun g3 _ s3 => hE g3 e (fun c o a _ d _ q => s3.extBut _ _ a (s2 _ _ d (x1 _ _ a q))) ⟨oe, s3.extBut _ _ ez he, ce⟩
  · obtain ⟨x, hx⟩ := Option.ne_none_iff_exists'.mp hx
    have hy : ys[k2]? = none := hend.resolve_left (by rw [hx]; simp)
    refine wpAny_bind (nx_item H1 L1 hx fun g2 n1 s2 => wpAny_pure ?_)
    have x2 : ∀ c o, c ≠ z → c ≠ i1 → s.heap.get? c = some o → g2.get? c = some o := fun c o a b e => s2.extBut c o b (x1 c o a e)
    have t2 : IsPair g2 TO u v := x2 _ _ D.TOz D.TOi1 hTO
    refine wpAny_bind (wpAny_seqItems t2 rfl (wpAny_bind (wpAny_updateSeq_pair t2 fun g3 t3 s3 => ?_)))
    have x3 : ∀ c o, c ≠ z → c ≠ TO → c ≠ i1 → s.heap.get? c = some o → g3.get? c = some o := fun c o a b d e => s3.extBut c o b (x2 c o a d e)
    refine wpAny_bind (wpAny_letGo (wpAny_pure (wpAny_bind (wpAny_bind (wpAny_onRaise ?_)))))
    show wpAny _ _ (Builtin.SmallTypes.nextOf (.ref i2) >>= _) _ _ _
    refine wpAny_bind (nx_end hh (h2.at fun o e => x3 _ o D.i2z D.TOi2.symm D.i12.symm e) (hl2.at fun o e => x3 _ o D.l2z D.l2TO D.l2i1 e) hy fun g4 e s4 ⟨oe, he, ce⟩ => ?_)
    have z4 : IsZip g4 z TI TO .ellipsis := s4 _ _ D.i2z.symm (s3.extBut _ _ D.TOz.symm (s2.extBut _ _ D.i1z.symm z1))
    have ez : e ≠ z := fun q => by rw [q, z4] at he; cases he; simp at ce
    exact wpAny_setField_rec z4 (by simp) fun g5 _ s5 => hE g5 e (fun c o a b d f q => s5.extBut _ _ a (s4 _ _ f (x3 _ _ a b d q))) ⟨oe, s5.extBut _ _ ez he, ce⟩
theorem py_item {b1 b2 : Bool} {z TI TO i1 i2 l1 l2 : Addr} {k1 k2 : Nat} {xs ys : Array Value} {x y u v : Value} {Q : Option Value → Shared → Prop} (D : ZipApart z TI TO i1 i2 l1 l2)
    (hz : IsZip s.heap z TI TO .none) (hTI : IsPair s.heap TI (.ref i1) (.ref i2)) (hTO : IsPair s.heap TO u v) (h1 : HI b1 s.heap i1 l1 k1) (h2 : HI b2 s.heap i2 l2 k2) (hl1 : HS b1 s.heap l1 xs) (hl2 : HS b2 s.heap l2 ys) (hx : xs[k1]? = some x) (hy : ys[k2]? = some y)
    (hQ : ∀ h', IsZip h' z TI TO (rawInt s.heap.objs.size) → IsPair h' TO x y → HI b1 h' i1 l1 (k1 + 1) → HI b2 h' i2 l2 (k2 + 1) → IsPair h' s.heap.objs.size x y → h'.objs.size = s.heap.objs.size + 1 → KeepZ z TO i1 i2 s.heap h' → Q (some (.ref s.heap.objs.size)) { s with heap := h' }) :
    wpAny (model prog w) A (pyNext (.ref z)) Q E s := by
  have hT : s.TypeIs (.ref z) "zip" := ⟨_, hz, rfl⟩
  unfold pyNext
  refine wpAny_bind (wpAny_attempt (wpAny_callSpecial?_slot (name := Str.ofString "__next__") hT F.slot_zip_next (wpAny_call_entry F.slot_zip_next hT F.entry_zip_next ?_ (F.args_zip_next_1 _))))
  exact turn_item D hz hTI hTO h1 h2 hl1 hl2 hx hy fun h' a1 a2 a3 a4 a5 a6 a7 => wpAny_pure (hQ h' a1 a2 a3 a4 a5 a6 a7)
theorem py_end {b1 b2 : Bool} {z TI TO i1 i2 l1 l2 : Addr} {k1 k2 : Nat} {xs ys : Array Value} {u v : Value} {Q : Option Value → Shared → Prop} (hh : A.handled = none) (D : ZipApart z TI TO i1 i2 l1 l2)
    (hz : IsZip s.heap z TI TO .none) (hTI : IsPair s.heap TI (.ref i1) (.ref i2)) (hTO : IsPair s.heap TO u v) (h1 : HI b1 s.heap i1 l1 k1) (h2 : HI b2 s.heap i2 l2 k2) (hl1 : HS b1 s.heap l1 xs) (hl2 : HS b2 s.heap l2 ys) (hend : xs[k1]? = none ∨ ys[k2]? = none)
    (hQ : ∀ h', KeepZ z TO i1 i2 s.heap h' → Q none { s with heap := h' }) : wpAny (model prog w) A (pyNext (.ref z)) Q E s := by
  have hT : s.TypeIs (.ref z) "zip" := ⟨_, hz, rfl⟩
  unfold pyNext
  refine wpAny_bind (wpAny_attempt (wpAny_callSpecial?_slot (name := Str.ofString "__next__") hT F.slot_zip_next (wpAny_call_entry F.slot_zip_next hT F.entry_zip_next
    (turn_end hh D hz hTI hTO h1 h2 hl1 hl2 hend fun h' e hk ⟨o, ho, hc⟩ => wpAny_bind (wpAny_isInstance (T := "StopIteration") (b := true) ⟨o, ho, hc⟩ isSubtype_stop (wpAny_pure (hQ _ hk)))) (F.args_zip_next_1 _))))
end
theorem iter_of {prog : Program} {w : World} {A : Around} {E : Value → Shared → Prop} {b : Bool} {s : Shared} {l : Addr} {xs : Array Value} {Q : Value → Shared → Prop} (hl : HS b s.heap l xs)
    (hQ : Q (.ref s.heap.objs.size) { s with heap := s.heap.push { cls := .type (iterN b), data := .fields #[.ref l, .int 0 0] } }) : wpAny (model prog w) A (pyIter (.ref l)) Q E s := by
  cases b
  · exact wpAny_pyIter_tuple hl hQ
  · exact wpAny_pyIter_list hl hQ
abbrev Z1 (b1 : Bool) (h : Heap) (l1 : Addr) : Heap := h.push { cls := .type (iterN b1), data := .fields #[.ref l1, .int 0 0] }
abbrev Z2 (b1 b2 : Bool) (h : Heap) (l1 l2 : Addr) : Heap := (Z1 b1 h l1).push { cls := .type (iterN b2), data := .fields #[.ref l2, .int 0 0] }
abbrev Z3 (b1 b2 : Bool) (h : Heap) (l1 l2 : Addr) : Heap := (Z2 b1 b2 h l1 l2).push { cls := .type "tuple", data := .seq #[.ref h.objs.size, .ref (Z1 b1 h l1).objs.size] }
abbrev Z4 (b1 b2 : Bool) (h : Heap) (l1 l2 : Addr) : Heap := (Z3 b1 b2 h l1 l2).push { cls := .type "tuple", data := .seq #[.none, .none] }
abbrev Z5 (b1 b2 : Bool) (h : Heap) (l1 l2 : Addr) : Heap := (Z4 b1 b2 h l1 l2).push { cls := .type "zip", data := .fields #[.none, .bool false, .bool false, .ref (Z2 b1 b2 h l1 l2).objs.size, .ref (Z3 b1 b2 h l1 l2).objs.size] }
theorem new_zip (b1 b2 : Bool) (l1 l2 : Addr) (xs ys : Array Value) :
    Meets (Builtin.«zip.__new__» ⟨[.type "zip", .ref l1, .ref l2], []⟩) (fun _ R s => HS b1 s.heap l1 xs ∧ HS b2 s.heap l2 ys ∧ R (.ok (.ret (.ref (Z4 b1 b2 s.heap l1 l2).objs.size))) { s with heap := Z5 b1 b2 s.heap l1 l2 }) :=
  .of_wp fun prog w A R s h => by
    obtain ⟨hp, g, d, tk, os⟩ := s
    obtain ⟨hl1, hl2, h⟩ := h
    have hsub := sub_zip
    have hL1 : HS b1 (Shared.heap ⟨hp, g, d, tk, os⟩) l1 xs := hl1
    have hL2 : HS b2 (Shared.heap ⟨hp.push { cls := .type (iterN b1), data := .fields #[.ref l1, .int 0 0] }, g, d, tk, os⟩) l2 ys := hl2.at fun o e => Heap.get?_push_of_some _ e
    wp_walk using iter_of hL1, iter_of hL2
    exact ⟨_, rfl, h⟩
section
variable {prog : Program} {w : World} {A : Around} {E : Value → Shared → Prop} {s : Shared}
theorem call_zip {b1 b2 : Bool} {l1 l2 : Addr} {xs ys : Array Value} {Q : Value → Shared → Prop} (hl1 : HS b1 s.heap l1 xs) (hl2 : HS b2 s.heap l2 ys)
    (h : ∀ h', IsZip h' (s.heap.objs.size + 4) (s.heap.objs.size + 2) (s.heap.objs.size + 3) .none → IsPair h' (s.heap.objs.size + 2) (.ref s.heap.objs.size) (.ref (s.heap.objs.size + 1)) → IsPair h' (s.heap.objs.size + 3) .none .none →
      HI b1 h' s.heap.objs.size l1 0 → HI b2 h' (s.heap.objs.size + 1) l2 0 → (∀ c o, s.heap.get? c = some o → h'.get? c = some o) → Q (.ref (s.heap.objs.size + 4)) { s with heap := h' }) :
    wpAny (model prog w) A (call (.type "zip") [.ref l1, .ref l2]) Q E s := by
  refine callType_new F.called_zip (by decide) (F.typeCall_zip_2 _ _) (F.newCall_zip_2 _ _) (fun obj => F.args_object_init_3 obj _ _) F.entry_zip_new (new_zip b1 b2 l1 l2 xs ys) ⟨hl1, hl2, ?_⟩
  have n1 : (Z1 b1 s.heap l1).objs.size = s.heap.objs.size + 1 := Heap.size_push ..
  have n2 : (Z2 b1 b2 s.heap l1 l2).objs.size = s.heap.objs.size + 2 := by rw [Heap.size_push, n1]
  have n3 : (Z3 b1 b2 s.heap l1 l2).objs.size = s.heap.objs.size + 3 := by rw [Heap.size_push, n2]
  have n4 : (Z4 b1 b2 s.heap l1 l2).objs.size = s.heap.objs.size + 4 := by rw [Heap.size_push, n3]
  have up1 : ∀ c o, s.heap.get? c = some o → (Z1 b1 s.heap l1).get? c = some o := fun c o e => Heap.get?_push_of_some _ e
  have up2 : ∀ c o, (Z1 b1 s.heap l1).get? c = some o → (Z2 b1 b2 s.heap l1 l2).get? c = some o := fun c o e => Heap.get?_push_of_some _ e
  have up3 : ∀ c o, (Z2 b1 b2 s.heap l1 l2).get? c = some o → (Z5 b1 b2 s.heap l1 l2).get? c = some o := fun c o e => Heap.get?_push_of_some _ (Heap.get?_push_of_some _ (Heap.get?_push_of_some _ e))
  have g5 : (Z5 b1 b2 s.heap l1 l2).get? (Z4 b1 b2 s.heap l1 l2).objs.size = some _ := Heap.get?_push_size _ rfl
  have g4 : (Z5 b1 b2 s.heap l1 l2).get? (Z3 b1 b2 s.heap l1 l2).objs.size = some _ := Heap.get?_push_of_some _ (Heap.get?_push_size _ rfl)
  have g3 : (Z5 b1 b2 s.heap l1 l2).get? (Z2 b1 b2 s.heap l1 l2).objs.size = some _ := Heap.get?_push_of_some _ (Heap.get?_push_of_some _ (Heap.get?_push_size _ rfl))
  have i2 : HI b2 (Z2 b1 b2 s.heap l1 l2) (Z1 b1 s.heap l1).objs.size l2 0 := by cases b2 <;> exact ⟨_, Heap.get?_push_size _ rfl, rfl, rfl⟩
  have i1 : HI b1 (Z1 b1 s.heap l1) s.heap.objs.size l1 0 := by cases b1 <;> exact ⟨_, Heap.get?_push_size _ rfl, rfl, rfl⟩
  have j2 := i2.at fun o e => up3 _ o e
  have j1 := i1.at fun o e => up3 _ o (up2 _ o e)
  show _ ∧ _
  rw [n2, n3, n4] at g5
  rw [n1, n2] at g3
  rw [n3] at g4
  rw [n1] at j2
  rw [n4]
  exact ⟨⟨_, g5, rfl⟩, h _ g5 g3 g4 j1 j2 fun c o e => up3 c o (up2 c o (up1 c o e))⟩
end
end DZ
namespace DL
open PySem PySem.Spec PyProof.Rows L2
/-- a list or a tuple of the heap told -/
def SqB (b : Bool) (K : PySem.W.Frag) (H : Hp) (a : Addr) (xs : List V) : Prop := match b with | true => SqL K H a xs | false => SqT K H a xs
theorem inv_seq {b : Bool} {X : Cx} {pins : List (Addr × Obj)} {σ : L2.St} {H : Hp} {s : Shared} {a : Addr} {xs : List V} (I : L2.Inv X pins σ H s) (h : SqB b X.K H a xs) : ∃ its : List Value, Vals xs its ∧ DZ.HS b s.heap a its.toArray := by
  cases b
  · obtain ⟨its, r, p, _⟩ := I.tuple h; exact ⟨its, r, p⟩
  · obtain ⟨its, r, p, _⟩ := I.list h; exact ⟨its, r, p.isList⟩
theorem inv_inj {b : Bool} {X : Cx} {pins : List (Addr × Obj)} {σ : L2.St} {H : Hp} {s : Shared} {a : Addr} {xs ys : List V} (I : L2.Inv X pins σ H s) (h : SqB b X.K H a xs) (h' : SqB b X.K H a ys) : xs = ys := by
  cases b
  · exact I.tuple_inj h h'
  · exact I.list_inj h h'
theorem hs_lt {b : Bool} {h : Heap} {a : Addr} {xs : Array Value} (p : DZ.HS b h a xs) : a < h.objs.size := by
  cases b
  · obtain ⟨_, e, _⟩ := (p : h.IsTuple a xs); exact Heap.lt_size e
  · obtain ⟨_, e, _⟩ := (p : h.IsList a xs); exact Heap.lt_size e
end DL
namespace DL
open PySem PySem.Spec PyProof.Rows L2
/-- a def at an address -/
structure FnA (P : Program) (w : World) (K : PySem.W.Frag) (mg : Str → Option Value) (base : Heap) (f : Addr) (k : Nat) (R : List D → D → Prop) : Prop where
  ex : ∃ fd ps, FnOk P w K mg base CX0 k f fd ps (spR K R) ∧ PySem.W.keepIn K (.ref f) = true ∧ Binds K fd ps []
/-- the dict x of the module has the key z -/
structure KdI (K : PySem.W.Frag) (w : World) (mg : Str → Option Value) (x z : Str) : Prop where
  ex : ∃ p es n u, mg x = some (.ref p) ∧ KDict K w p es n ∧ PySem.W.nsIn K p z = some (some u)
end DL
namespace DL
open PySem PySem.Spec PyProof.Rows L2
/-- the dict x of the module gives for the text z the def g of the module -/
structure KdR (K : PySem.W.Frag) (w : World) (mg : Str → Option Value) (x z g : Str) : Prop where
  ex : ∃ f, mg g = some (.ref f) ∧ KdL K w mg x z (.ad f)
  has : KdI K w mg x z
theorem KdR.fn {P : Program} {w : World} {K : PySem.W.Frag} {mg : Str → Option Value} {base : Heap} {x z g : Str} {k : Nat} {R : List D → D → Prop} (h : KdR K w mg x z g) (G : Fn P w K mg base g k R) : ∃ f, KdL K w mg x z (.ad f) ∧ FnA P w K mg base f k R := by
  obtain ⟨f, h1, h2⟩ := h.ex
  obtain ⟨f', fd, ps, F, hm, hk, hb⟩ := G.ex
  have e := h1.symm.trans hm
  cases e
  exact ⟨f, h2, fd, ps, F, hk, hb⟩
end DL
namespace DL
open PySem PySem.Spec PyProof.Rows L2
def layN : List Str := ["well", "active", "poly", "contact", "metal", "via", "top"]
def labN : List Str := ["active", "poly", "metal", "top"]
abbrev Shp := Str × Bx
def shB (s : Shp) : Bool := decide (s.1 ∈ layN) && (decide (s.2.a < s.2.c) && decide (s.2.b < s.2.d))
structure Lab where
  n : Str
  l : Str
  x : Int
  y : Int
def Lab.e (v : Lab) : D := .tup [.str v.n, .str v.l, .int v.x, .int v.y]
def labB (v : Lab) : Bool := nameB v.n && decide (v.l ∈ labN)
structure Pla where
  n : Str
  t : Int
  dx : Int
  dy : Int
  c : Int
  r : Int
  sx : Int
  sy : Int
def Pla.e (v : Pla) : D := .tup [.str v.n, .tup [.int v.t, .int v.dx, .int v.dy], .int v.c, .int v.r, .int v.sx, .int v.sy]
def plaB (v : Pla) : Bool := nameB v.n && ((decide (0 ≤ v.t) && decide (v.t < 8)) && ((decide (1 ≤ v.c) && decide (v.c ≤ 100)) && (decide (1 ≤ v.r) && decide (v.r ≤ 100))))
def celB (n : Str) (S : List Shp) (L : List Lab) (P : List Pla) : Bool := nameB n && (S.all shB && (L.all labB && P.all plaB))
structure CelOk (n : Str) (S : List Shp) (L : List Lab) (P : List Pla) : Prop where
  n : nameB n = true
  s : ∀ x ∈ S, shB x = true
  l : ∀ x ∈ L, labB x = true
  p : ∀ x ∈ P, plaB x = true
theorem CelOk.b {n : Str} {S : List Shp} {L : List Lab} {P : List Pla} (ok : CelOk n S L P) : celB n S L P = true := by
  unfold celB
  rw [ok.n, List.all_eq_true.mpr ok.s, List.all_eq_true.mpr ok.l, List.all_eq_true.mpr ok.p]; rfl
def MD : Nat → D → Prop
  | 0, d => (∃ i, d = .int i) ∨ ∃ z, d = .str z
  | k + 1, d => ((∃ i, d = .int i) ∨ ∃ z, d = .str z) ∨ ∃ es, d = .tup es ∧ es.length ≤ 1000 ∧ ∀ e ∈ es, MD k e
class MdC (k : Nat) (d : D) (P : outParam Prop) where
  out : MD k d → P
instance (d : D) : MdC 0 d ((∃ i, d = .int i) ∨ ∃ z, d = .str z) := ⟨fun h => h⟩
instance (k : Nat) (d : D) : MdC (k + 1) d ((∃ i, d = .int i) ∨ (∃ z, d = .str z) ∨ ∃ es, d = .tup es ∧ es.length ≤ 1000 ∧ ∀ e ∈ es, MD k e) := ⟨fun h => by
  rcases h with (h | h) | h
  · exact .inl h
  · exact .inr (.inl h)
  · exact .inr (.inr h)⟩
theorem getD_mem {α : Type} {xs : List α} {i : Int} {a : α} (h : 0 ≤ i ∧ i < xs.length) : xs.getD i.toNat a ∈ xs := by
  have hi : i.toNat < xs.length := by omega
  rw [List.getD_eq_getElem?_getD, List.getElem?_eq_getElem hi]
  exact List.getElem_mem hi
theorem MD.up : ∀ {k : Nat} {d : D}, MD k d → MD (k + 1) d
  | 0, d, h => .inl h
  | k + 1, d, h => by
    rcases h with h | ⟨es, e, h1, h2⟩
    · exact .inl h
    · exact .inr ⟨es, e, h1, fun x hx => MD.up (h2 x hx)⟩
def nmX (n : Str) (d : Int) : Str := ([n, "abcdefgh1234", "q"] : List Str).getD (d % 3).toNat ""
theorem nmX_ok {n : Str} {d : Int} (h : nameB n = true) : nameB (nmX n d) = true := by
  have hm := getD_mem (xs := ([n, "abcdefgh1234", "q"] : List Str)) (i := d % 3) (a := "") (by show _ ∧ _ < (3 : Int); omega)
  have hm2 : nmX n d ∈ ([n, "abcdefgh1234", "q"] : List Str) := hm
  simp only [List.mem_cons, List.not_mem_nil, or_false] at hm2
  rcases hm2 with e | e | e <;> rw [e]
  · exact h
  · decide +kernel
  · decide +kernel
def zzP (d : Int) : Pla := ⟨"zz", 7, 100000000000000000000, -5, 100, 1 + d % 100, -d, 1000000000000000⟩
theorem zzP_ok (d : Int) : plaB (zzP d) = true := by
  unfold plaB
  rw [show nameB (zzP d).n = true from (by decide +kernel : nameB "zz" = true)]
  simp only [Bool.true_and, Bool.and_eq_true, decide_eq_true_eq]
  exact ⟨⟨by show (0 : Int) ≤ 7; decide, by show (7 : Int) < 8; decide⟩, ⟨by show (1 : Int) ≤ 100; decide, by show (100 : Int) ≤ 100; decide⟩, show 1 ≤ 1 + d % 100 by omega, show 1 + d % 100 ≤ 100 by omega⟩
theorem CelOk.more {n : Str} {S : List Shp} {L : List Lab} {P : List Pla} (ok : CelOk n S L P) (d : Int) : CelOk (nmX n d) S L (P ++ [zzP d]) := ⟨nmX_ok ok.n, ok.s, ok.l, fun x hx => by
  rcases List.mem_append.mp hx with h | h
  · exact ok.p x h
  · rw [List.mem_singleton] at h; subst h; exact zzP_ok d⟩
end DL
namespace DL
open PySem PySem.Spec PyProof.Rows L2
/-- where a tuple stands, and its items -/
abbrev KRow := Addr × List Key
section
variable {P : Program} {w : World} {A : Around} {E : Value → Shared → Prop} {s : Shared}
def hsK (P : Program) (w : World) (p : KRow) : Int := tupleKeyHash (mixKind P w) p.2
def enK (P : Program) (w : World) (p : KRow) : Int × Value := (hsK P w p, Value.ref p.1)
/-- at a stands a set of these tuples, in the order of its table -/
structure TSet (P : Program) (w : World) (h : Heap) (a : Addr) (L : List KRow) (es : Array (Int × Value)) (ep : Nat) (t : SetTable) : Prop where
  here : ∃ o, h.get? a = some o ∧ o.ExactSet ∧ o.data = .set es ep t
  ents : es.toList = L.map (enK P w)
  tabl : TabOk t (L.map (hsK P w))
  once : (L.map Prod.snd).Nodup
  led : w.params.followText "set-order" = true ∨ t.led = true
  room : L.length * 5 < t.mask * 3
  few : L.length < 64
variable {a : Addr} {L : List KRow} {es : Array (Int × Value)} {ep : Nat} {t : SetTable}
end
end DL
namespace DL
open PySem PySem.Spec PyProof.Rows L2
open PySem.W (EachIs AllAlike Sortable KeepsBut SortsAt KeyedOut dataLe dataKind alike sortingHeap sortingHeap_old)
section
variable {P : Program} {w : World} {A : Around} {E : Value → Shared → Prop} {s : Shared}
/-- what the first i rows gave -/
structure Had (rows : List KRow) (i : Nat) (L : List KRow) : Prop where
  sub : ∀ p ∈ L, p ∈ rows
  all : ∀ p ∈ rows.take i, p.2 ∈ L.map Prod.snd
  len : L.length ≤ i
theorem Had.next {rows L L' : List KRow} {i : Nat} {x : KRow} (g : Had rows i L) (h : rows[i]? = some x) (h1 : x.2 ∈ L.map Prod.snd → L' = L) (h2 : x.2 ∉ L.map Prod.snd → L'.Perm (x :: L)) : Had rows (i + 1) L' := by
  by_cases m : x.2 ∈ L.map Prod.snd
  · rw [h1 m]
    refine ⟨g.sub, fun p hp => ?_, Nat.le_succ_of_le g.len⟩
    rw [List.take_add_one, h, List.mem_append] at hp
    rcases hp with z | z
    · exact g.all p z
    · rw [show p = x by simpa using z]; exact m
  · have pm := h2 m
    refine ⟨fun p hp => ?_, fun p hp => (pm.map Prod.snd).mem_iff.mpr ?_, by rw [pm.length_eq]; exact Nat.succ_le_succ g.len⟩
    · rcases List.mem_cons.mp (pm.mem_iff.mp hp) with z | z
      · rw [z]; exact List.mem_of_getElem? h
      · exact g.sub p z
    · rw [List.take_add_one, h, List.mem_append] at hp
      rcases hp with z | z
      · exact List.mem_cons_of_mem _ (g.all p z)
      · rw [show p = x by simpa using z]; exact List.mem_cons_self ..
def SetHad (P : Program) (w : World) (h : Heap) (a : Addr) (rows : List KRow) (i : Nat) : Prop := ∃ L es ep t, TSet P w h a L es ep t ∧ Had rows i L
theorem TSet.at2 {h h' : Heap} {a : Addr} {L : List KRow} {es : Array (Int × Value)} {ep : Nat} {t : SetTable} (T : TSet P w h a L es ep t) (k : ∀ o, h.get? a = some o → h'.get? a = some o) : TSet P w h' a L es ep t := by
  obtain ⟨o, ho, r⟩ := T.here
  exact ⟨⟨o, k o ho, r⟩, T.ents, T.tabl, T.once, T.led, T.room, T.few⟩
theorem SetHad.at2 {h h' : Heap} {a : Addr} {rows : List KRow} {i : Nat} (T : SetHad P w h a rows i) (k : ∀ o, h.get? a = some o → h'.get? a = some o) : SetHad P w h' a rows i := by
  obtain ⟨L, es, ep, t, T, g⟩ := T
  exact ⟨L, es, ep, t, T.at2 k, g⟩
end
end DL
namespace DL
open PySem PySem.Spec PyProof.Rows L2
open PySem.W (dataLe dataLt alike)
def labK (v : Lab) : List Key := [.inr v.n, .inr v.l, .inl v.x, .inl v.y]
theorem lab_ext {v u : Lab} (h1 : v.n = u.n) (h2 : v.l = u.l) (h3 : v.x = u.x) (h4 : v.y = u.y) : v = u := by
  cases v; cases u; simp only at h1 h2 h3 h4; rw [h1, h2, h3, h4]
theorem labK_inj (v u : Lab) (h : labK v = labK u) : v = u := by
  unfold labK at h
  simp only [List.cons.injEq, Sum.inr.injEq, Sum.inl.injEq, and_true] at h
  exact lab_ext h.1 h.2.1 h.2.2.1 h.2.2.2
/-- each label once, ascending -/
instance : DecidableEq Lab := fun a b => if h : labK a = labK b then isTrue (labK_inj a b h) else isFalse fun e => h (by rw [e])
end DL
namespace DL
open PySem PySem.Spec PyProof.Rows L2
open PySem.W (dataLe dataLt alike)
/-- the boxes on a layer -/
def onB (S : List Shp) (l : Str) : List Bx := (S.filter fun s => decide (s.1 = l)).map (·.2)
end DL
namespace DL
open PySem PySem.Spec PyProof.Rows L2
/-- shapes cut layer by layer -/
def cutS (S : List Shp) (c : Int) (ls : List Str) : List Shp := ls.foldl (fun C l => C ++ (cutB (onB S l) (c + (C.length : Int))).map fun b => (l, b)) []
end DL
namespace DL
open PySem PySem.Spec PyProof.Rows L2
def cD60 (c i : Int) : Int := dr c 60 i
/-- the shapes of a wire -/
def wiA (k : Int) : Int := 21 + 5 * k
def wiX (c k : Int) : Int := cD60 c (wiA k) % 20
def wiY (c k : Int) : Int := cD60 c (wiA k) / 20 % 13
def wiS (c k : Int) : Int := 1 + cD60 c (wiA k + 1) % 11
def wiB (c k : Int) : Bx := if cD60 c (wiA k + 1) / 11 % 2 = 1 then ⟨wiX c k, wiY c k, wiX c k + 1, wiY c k + wiS c k⟩ else ⟨wiX c k, wiY c k, wiX c k + wiS c k, wiY c k + 1⟩
def wiN : List Str := ["metal", "metal", "top"]
def wiL (c k : Int) : Str := wiN.getD (cD60 c (wiA k + 1) / 22 % 3).toNat ""
def wi1 (c k : Int) : List Shp := [(wiL c k, wiB c k)]
end DL
namespace DL
open PySem PySem.Spec PyProof.Rows L2
abbrev TRow := Int × Bx
inductive Tr where
  | leaf (rs : List TRow)
  | node (h : Bx) (l r : Tr)
/-- all rows -/
def Tr.all : Tr → List TRow
  | .leaf rs => rs
  | .node _ l r => l.all ++ r.all
/-- the hull of a node holds all below it -/
def Tr.ok : Tr → Prop
  | .leaf _ => True
  | .node h l r => (∀ q ∈ l.all ++ r.all, h.a ≤ q.2.a ∧ h.b ≤ q.2.b ∧ q.2.c ≤ h.c ∧ q.2.d ≤ h.d) ∧ l.ok ∧ r.ok
end DL
namespace DL
open PySem PySem.Spec PyProof.Rows L2
theorem enum_gW {α : Type} (xs : List α) (f : α → D) (a0 : α) : enumD (xs.map f) = (List.range xs.length).map fun (i : Nat) => D.tup [.int (i : Int), f (xs.getD i a0)] := by
  refine List.ext_getElem (by rw [enum_len]; simp) fun i h1 h2 => ?_
  have hi : i < xs.length := by rw [enum_len, List.length_map] at h1; exact h1
  have e : (enumD (xs.map f))[i]? = some (enumD (xs.map f))[i] := List.getElem?_eq_getElem h1
  obtain ⟨d, q1, q2⟩ := enum_get e
  rw [List.getElem?_map, List.getElem?_eq_getElem hi] at q1
  cases q1
  rw [q2, List.getElem_map, List.getElem_range, List.getD_eq_getElem?_getD, List.getElem?_eq_getElem hi]; rfl
end DL
namespace DL
open PySem PySem.Spec PyProof.Rows L2
def addsL (as : List (Int × Int)) : Lk := as.foldl (fun L p => addL L p.1 p.2) []
theorem addsL_snoc (as : List (Int × Int)) (p : Int × Int) : addsL (as ++ [p]) = addL (addsL as) p.1 p.2 := by unfold addsL; rw [List.foldl_append]; rfl
theorem adds_ind {C : List (Int × Int) → Prop} (h0 : C []) (h : ∀ as p, C as → C (as ++ [p])) (as : List (Int × Int)) : C as := by
  have key : ∀ (bs : List (Int × Int)), C bs.reverse := fun bs => by
    induction bs with
    | nil => exact h0
    | cons b bs ih => rw [List.reverse_cons]; exact h _ _ ih
  have := key as.reverse
  rwa [List.reverse_reverse] at this
theorem adds_nd (as : List (Int × Int)) : (keyK (addsL as)).Nodup := adds_ind (C := fun as => (keyK (addsL as)).Nodup) (by simp [addsL, keyK]) (fun as p h => by rw [addsL_snoc]; exact keyK_nodup _ _ _ h) as
theorem adds_bd (as : List (Int × Int)) : (addsL as).length ≤ as.length ∧ ∀ q ∈ addsL as, q.2.length ≤ as.length := adds_ind (C := fun as => (addsL as).length ≤ as.length ∧ ∀ q ∈ addsL as, q.2.length ≤ as.length) (by simp [addsL]) (fun as p h => by
  rw [addsL_snoc, List.length_append]
  exact ⟨Nat.le_trans (addL_len _ _ _) (Nat.add_le_add_right h.1 1), addL_bd h.2⟩) as
theorem adds_nb (as : List (Int × Int)) (m : Int) : nbL (addsL as) m = (as.filter fun p => decide (p.1 = m)).map (·.2) := adds_ind (C := fun as => nbL (addsL as) m = (as.filter fun p => decide (p.1 = m)).map (·.2)) (by simp [addsL, nbL]) (fun as p h => by
  rw [addsL_snoc, nbL_add, List.filter_append, List.map_append, h]
  by_cases e : p.1 = m
  · rw [if_pos e]; simp [e]
  · rw [if_neg e]; simp [e]) as
/-- the gates of a group, ascending -/
noncomputable def gatS (G : List Dev) : List Int := srtU (G.map (·.g))
noncomputable def wad (Gs : List (List Dev)) (i : Nat) : List (Int × Int) := (List.range i).flatMap fun (k : Nat) => (gatS (Gs.getD k [])).map fun g => (g, (k : Int))
theorem wad_succ (Gs : List (List Dev)) (i : Nat) : wad Gs (i + 1) = wad Gs i ++ (gatS (Gs.getD i [])).map fun g => (g, (i : Int)) := by unfold wad; rw [List.range_succ, List.flatMap_append]; simp
noncomputable def wadJ (Gs : List (List Dev)) (i j : Nat) : List (Int × Int) := wad Gs i ++ ((gatS (Gs.getD i [])).take j).map fun g => (g, (i : Int))
theorem wadJ_0 (Gs : List (List Dev)) (i : Nat) : wadJ Gs i 0 = wad Gs i := by unfold wadJ; simp
theorem wadJ_succ {Gs : List (List Dev)} {i j : Nat} {g : Int} (h : (gatS (Gs.getD i []))[j]? = some g) : wadJ Gs i (j + 1) = wadJ Gs i j ++ [(g, (i : Int))] := by unfold wadJ; rw [List.take_add_one, h]; simp
theorem wadJ_all (Gs : List (List Dev)) (i : Nat) : wadJ Gs i (gatS (Gs.getD i [])).length = wad Gs (i + 1) := by unfold wadJ; rw [List.take_length, wad_succ]
noncomputable def watL (Gs : List (List Dev)) : Lk := addsL (wad Gs Gs.length)
theorem insU_len (x : Int) : ∀ l : List Int, (insU x l).length ≤ l.length + 1
  | [] => by simp [insU]
  | y :: l => by
    have ih := insU_len x l
    unfold insU
    split
    · simp
    · split
      · simp
      · simp only [List.length_cons]; omega
theorem srtU_len9 : ∀ l : List Int, (srtU l).length ≤ l.length
  | [] => Nat.le_refl _
  | x :: l => by
    have h := insU_len x (srtU l)
    have ih := srtU_len9 l
    show (insU x (srtU l)).length ≤ _
    simp only [List.length_cons]; omega
theorem gat_len (G : List Dev) : (gatS G).length ≤ G.length := by
  unfold gatS
  have := srtU_len9 (G.map (·.g))
  rwa [List.length_map] at this
theorem wad_len {Gs : List (List Dev)} (h : ∀ G ∈ Gs, G.length ≤ 200) : ∀ i, i ≤ Gs.length → (wad Gs i).length ≤ 200 * i
  | 0, _ => by simp [wad]
  | i + 1, hi => by
    have ih := wad_len h i (by omega)
    rw [wad_succ, List.length_append, List.length_map]
    have h1 := gat_len (Gs.getD i [])
    have h2 : (Gs.getD i []).length ≤ 200 := h _ (by rw [List.getD_eq_getElem?_getD, List.getElem?_eq_getElem (by omega)]; exact List.getElem_mem (by omega))
    omega
theorem wadJ_len {Gs : List (List Dev)} (h : ∀ G ∈ Gs, G.length ≤ 200) {i : Nat} (hi : i < Gs.length) (j : Nat) : (wadJ Gs i j).length ≤ 200 * Gs.length := by
  have h1 := wad_len h i (by omega)
  unfold wadJ
  rw [List.length_append, List.length_map, List.length_take]
  have h3 := gat_len (Gs.getD i [])
  have h2 : (Gs.getD i []).length ≤ 200 := h _ (by rw [List.getD_eq_getElem?_getD, List.getElem?_eq_getElem hi]; exact List.getElem_mem hi)
  have : 200 * (i + 1) ≤ 200 * Gs.length := Nat.mul_le_mul_left _ hi
  omega
end DL
namespace DL
open PySem PySem.Spec PyProof.Rows L2
abbrev LkG := List (Int × List D)
def addG : LkG → Int → D → LkG
  | [], k, v => [(k, [v])]
  | (a, xs) :: r, k, v => if a = k then (a, xs ++ [v]) :: r else (a, xs) :: addG r k v
def keyG (L : LkG) : List Int := L.map (·.1)
theorem keyG_add (L : LkG) (k : Int) (v : D) (m : Int) : m ∈ keyG (addG L k v) ↔ m ∈ keyG L ∨ m = k := by
  induction L with
  | nil => simp [addG, keyG]
  | cons p r ih =>
    obtain ⟨a, xs⟩ := p
    show m ∈ keyG (if a = k then (a, xs ++ [v]) :: r else (a, xs) :: addG r k v) ↔ _
    by_cases h : a = k
    · subst h
      rw [if_pos rfl]
      simp only [keyG, List.map_cons, List.mem_cons]
      constructor
      · exact fun z => .inl z
      · rintro (z | z)
        · exact z
        · exact .inl z
    · rw [if_neg h]
      have ih' : m ∈ (addG r k v).map (·.1) ↔ m ∈ r.map (·.1) ∨ m = k := ih
      simp only [keyG, List.map_cons, List.mem_cons, ih', or_assoc]
theorem keyG_nodup (L : LkG) (k : Int) (v : D) (h : (keyG L).Nodup) : (keyG (addG L k v)).Nodup := by
  induction L with
  | nil => simp [addG, keyG]
  | cons p r ih =>
    obtain ⟨a, xs⟩ := p
    show (keyG (if a = k then (a, xs ++ [v]) :: r else (a, xs) :: addG r k v)).Nodup
    have h' := List.nodup_cons.mp h
    by_cases e : a = k
    · rw [if_pos e]; exact h
    · rw [if_neg e]
      refine List.nodup_cons.mpr ⟨fun m => ?_, ih h'.2⟩
      rcases (keyG_add r k v a).mp m with m | m
      · exact h'.1 m
      · exact e m
def gkC (a : Addr) (ps : List Addr) (L : LkG) : Cs := (a, OC.dk (L.map fun p => kI p.1) (ps.map D.ad)) :: (ps.zip L).map fun q => (q.1, OC.lst (q.2.2))
abbrev gkD (L : LkG) : D := .dk (L.map fun p => kI p.1) (L.map fun p => D.lst p.2)
theorem gkC_fst {a : Addr} {ps : List Addr} {L : LkG} (h : ps.length = L.length) : (gkC a ps L).map (·.1) = a :: ps := by
  unfold gkC
  rw [List.map_cons, List.map_map]
  congr 1
  show (ps.zip L).map Prod.fst = ps
  exact List.map_fst_zip (by omega)
theorem addG_old : ∀ {L : LkG} {n : Nat} {y : Int} {v : D} {xs : List D}, (keyG L).Nodup → L[n]? = some (y, xs) → addG L y v = L.set n (y, xs ++ [v])
  | [], n, y, v, xs, _, h => by simp at h
  | (b, zs) :: r, 0, y, v, xs, _, h => by
    simp only [List.getElem?_cons_zero, Option.some.injEq, Prod.mk.injEq] at h
    obtain ⟨rfl, rfl⟩ := h
    show (if b = b then _ else _) = _
    rw [if_pos rfl]; rfl
  | (b, zs) :: r, n + 1, y, v, xs, nd, h => by
    have h' : r[n]? = some (y, xs) := by simpa using h
    have nd' := List.nodup_cons.mp nd
    have ne : b ≠ y := fun e => nd'.1 (by rw [e]; exact List.mem_map.mpr ⟨_, List.mem_of_getElem? h', rfl⟩)
    show (if b = y then _ else _) = _
    rw [if_neg ne, addG_old nd'.2 h']; rfl
theorem addG_new : ∀ {L : LkG} {y : Int} {v : D}, y ∉ keyG L → addG L y v = L ++ [(y, [v])]
  | [], y, v, _ => rfl
  | (b, zs) :: r, y, v, h => by
    show (if b = y then _ else _) = _
    rw [if_neg fun e => h (by rw [← e]; exact List.mem_cons_self), addG_new fun m => h (List.mem_cons_of_mem _ m)]; rfl
theorem mem_kG {L : LkG} {y : Int} : (Sum.inl y : Key) ∈ L.map (fun p => kI p.1) ↔ y ∈ keyG L := by
  unfold keyG
  simp only [List.mem_map]
  exact ⟨fun ⟨p, h, e⟩ => ⟨p, h, by cases e; rfl⟩, fun ⟨p, h, e⟩ => ⟨p, h, by rw [← e]; rfl⟩⟩
theorem gkC_at {a : Addr} {ps : List Addr} {L : LkG} {n : Nat} {q : Addr} {y : Int} {xs : List D} (h1 : ps[n]? = some q) (h2 : L[n]? = some (y, xs)) : (gkC a ps L)[n + 1]? = some (q, OC.lst (xs)) := by
  unfold gkC
  rw [List.getElem?_cons_succ, List.getElem?_map, List.getElem?_zip_eq_some (z := (q, (y, xs))) |>.mpr ⟨h1, h2⟩]; rfl
theorem gkC_old {a : Addr} {ps : List Addr} {L : LkG} {n : Nat} {q : Addr} {y : Int} {v : D} {xs : List D} (hl : ps.length = L.length) (nd : (a :: ps).Nodup) (nk : (keyG L).Nodup) (h1 : ps[n]? = some q) (h2 : L[n]? = some (y, xs)) : putC (gkC a ps L) q (.lst (xs ++ [v])) = gkC a ps (addG L y v) := by
  rw [putC_set (by show (List.map _ _).Nodup; rw [gkC_fst hl]; exact nd) (gkC_at h1 h2), addG_old nk h2]
  unfold gkC
  have hn : n < L.length := (List.getElem?_eq_some_iff.mp h2).1
  have e1 : (L.set n (y, xs ++ [v])).map (fun p => kI p.1) = L.map (fun p => kI p.1) := by
    rw [List.map_set]
    refine List.ext_getElem? fun k => ?_
    rw [List.getElem?_set]
    by_cases e : n = k
    · subst e; rw [if_pos rfl, if_pos (by rw [List.length_map]; exact hn), List.getElem?_map, h2]; rfl
    · rw [if_neg e]
  rw [e1, List.set_cons_succ]
  congr 1
  refine List.ext_getElem? fun k => ?_
  rw [List.getElem?_set, List.getElem?_map, List.getElem?_map]
  by_cases e : n = k
  · subst e
    rw [if_pos rfl, if_pos (by rw [List.length_map, List.length_zip]; omega), List.getElem?_zip_eq_some (z := (q, (y, xs ++ [v]))) |>.mpr ⟨h1, by rw [List.getElem?_set_self hn]⟩]
    show _ = some (q, OC.lst (xs ++ [v]))
    rfl
  · rw [if_neg e]
    have e2 : (L.set n (y, xs ++ [v]))[k]? = L[k]? := by rw [List.getElem?_set, if_neg e]
    congr 1
    unfold List.zip
    rw [List.getElem?_zipWith', List.getElem?_zipWith', e2]
theorem gkC_new {a q : Addr} {ps : List Addr} {L : LkG} {y : Int} {v : D} (hl : ps.length = L.length) (nd : (a :: ps).Nodup) (hq : q ∉ a :: ps) (hy : y ∉ keyG L) :
    putC (putC (gkC a ps L ++ [(q, .lst [])]) a (.dk ((L.map fun p => kI p.1) ++ [Sum.inl y]) (ps.map D.ad ++ [.ad q]))) q (.lst ([] ++ [v])) = gkC a (ps ++ [q]) (addG L y v) := by
  have nd2 : ((gkC a ps L ++ [(q, OC.lst [])]).map (·.1)).Nodup := by
    rw [List.map_append, gkC_fst hl]
    exact List.nodup_append.mpr ⟨nd, by simp, fun x hx z hz e => by simp at hz; subst hz; subst e; exact hq hx⟩
  have e1 : putC (gkC a ps L ++ [(q, .lst [])]) a (.dk ((L.map fun p => kI p.1) ++ [Sum.inl y]) (ps.map D.ad ++ [.ad q])) = ((a, OC.dk ((L.map fun p => kI p.1) ++ [Sum.inl y]) (ps.map D.ad ++ [.ad q])) :: ((ps.zip L).map fun q => (q.1, OC.lst (q.2.2))) ++ [(q, .lst [])]) := by
    unfold gkC at nd2 ⊢
    exact putC_hd (c := OC.dk (L.map fun p => kI p.1) (ps.map D.ad)) nd2
  rw [e1, addG_new hy]
  rw [putC_set (i := ps.length + 1) (c := .lst []) (by
    have := nd2
    unfold gkC at this
    exact this) (by
    rw [List.cons_append, List.getElem?_cons_succ, List.getElem?_append_right (by rw [List.length_map, List.length_zip]; omega)]
    rw [List.length_map, List.length_zip, show min ps.length L.length = ps.length by omega, Nat.sub_self]; rfl)]
  unfold gkC
  rw [List.cons_append, List.set_cons_succ, List.set_append_right _ _ (by rw [List.length_map, List.length_zip]; omega)]
  rw [List.length_map, List.length_zip, show min ps.length L.length = ps.length by omega, Nat.sub_self, List.zip_append hl, List.map_append, List.map_append, List.map_append]
  rfl
theorem gk_shown {K : PySem.W.Frag} {H : Hp} {a : Addr} {ps : List Addr} {L : LkG} (hl : ps.length = L.length) {v : V} (h : ∀ p ∈ gkC a ps L, DR K H p.2.d (.ref p.1)) (r : DR K H (.ad a) v) : DR K H (gkD L) v := by
  cases (show v = .ref a from r)
  obtain ⟨a', vs, e1, h1, h2, h3⟩ := h (a, OC.dk (L.map fun p => kI p.1) (ps.map D.ad)) (by unfold gkC; exact List.mem_cons_self)
  cases e1
  refine ⟨a, vs, rfl, h1, h2, ?_⟩
  have key : ∀ (ps : List Addr) (L : LkG) (vs : List V), ps.length = L.length → DRs K H (ps.map D.ad) vs → (∀ q ∈ ps.zip L, DR K H (.lst (q.2.2)) (.ref q.1)) → DRs K H (L.map fun p => D.lst p.2) vs := by
    intro ps
    induction ps with
    | nil =>
      intro L vs hl r _
      cases L with
      | nil => exact r
      | cons _ _ => simp at hl
    | cons p ps ih =>
      intro L vs hl r hq
      cases L with
      | nil => simp at hl
      | cons e L =>
        obtain ⟨v, ws, rfl, q1, q2⟩ := r
        cases (show v = .ref p from q1)
        exact ⟨.ref p, ws, rfl, hq (p, e) (by simp), ih L ws (by simpa using hl) q2 fun q hm => hq q (by simp [hm])⟩
  exact key ps L vs hl h3 fun q hq => h (q.1, OC.lst (q.2.2)) (by unfold gkC; exact List.mem_cons_of_mem _ (List.mem_map.mpr ⟨q, hq, rfl⟩))
theorem keyG_at {L : LkG} {n : Nat} {y : Int} (h : (L.map fun p => kI p.1)[n]? = some (Sum.inl y)) : ∃ xs, L[n]? = some (y, xs) := by
  rw [List.getElem?_map] at h
  cases e : L[n]? with
  | none => rw [e] at h; cases h
  | some p =>
    rw [e] at h
    obtain ⟨b, xs⟩ := p
    have h := Option.some.inj h
    have : b = y := by
      have h : kI b = Sum.inl y := h
      unfold kI at h; cases h; rfl
    exact ⟨xs, by rw [this]⟩
section
variable {X : Cx} {ρ : En} {pos : Pos} {Φ : Out → Prop}
/-- x.setdefault(e, []), e an expression that changes other slots -/
theorem ep_setdefP (i : Nat) {x : Str} {p1 p2 p3 p4 : Pos} {l : Addr} {ks : List Key} {ds : List D} {cs : Cs} {e : Expr} {Ψ : D → En → Prop} (hi : ρ[i]? = some (.ox ((l, .dk ks ds) :: cs) (.ad l))) (he : EP X ρ e Ψ) (hΨ : ∀ d ρ1, Ψ d ρ1 → (∃ y : Int, d = .int y) ∧ ρ1[i]? = ρ[i]?) (hl : ks.length < sizeLine)
    (m : M2 X (.Name x p1) "setdefault" p2 e (.List [] p3) p4)
    (hN : X.N[i]? = some x := by rfl) (hv : Vis X.env.scope x := by first | exact Or.inl rfl | exact Or.inr (Or.inl rfl) | exact Or.inr (Or.inr rfl)) (hd : (x == ("__debug__" : Str)) = false := by decide) (hcd : (x == ("__classdict__" : Str)) = false := by decide) :
    EP X ρ (.Call (.Attribute (.Name x p1) "setdefault" p2) [e, .List [] p3] [] p4) (fun d ρ' => ∃ (y : Int) (ρ1 : En), Ψ (.int y) ρ1 ∧ ρ1[i]? = ρ[i]? ∧ ((∃ (n : Nat), ks[n]? = some (Sum.inl y) ∧ ds[n]? = some d ∧ ρ' = ρ1) ∨ (Sum.inl y ∉ ks ∧ ∃ q, q ∉ (((l, OC.dk ks ds) :: cs).map (·.1)) ∧ d = .ad q ∧ ρ' = ρ1.set i (.ox (putC (((l, .dk ks ds) :: cs) ++ [(q, .lst [])]) l (.dk (ks ++ [Sum.inl y]) (ds ++ [.ad q]))) (.ad l))))) := fun B0 B σ H0 H Q J k => by
  refine RE.of (pe_dsetd (pe_var hN hv hd hcd) pe_star pe_star m) ?_
  obtain ⟨ov, e0, ⟨v, rfl, hvv⟩, _⟩ := J.get hi
  cases (show v = .ref l from hvv)
  obtain ⟨o0, f1, _, _, vs0, rfl, _⟩ := J.cell hi (List.mem_cons_self ..)
  refine ⟨_, e0, l, rfl, .inl ⟨_, .inl f1⟩, he B0 B σ H0 H _ J fun dy ρ1 yv G0 G w1 s1 j1 r1 => ?_⟩
  obtain ⟨⟨y, rfl⟩, hsame⟩ := hΨ dy ρ1 w1
  have hi1 : ρ1[i]? = some (.ox ((l, .dk ks ds) :: cs) (.ad l)) := hsame.trans hi
  cases (show yv = .int y from r1)
  refine eo_lst (X := X) (ρ := ρ1) ad_nil (by decide) B0 B σ G0 G _ j1 fun q o L0 L g2 w2 w3 w4 w5 => ?_
  have j2 := j1.grow g2
  obtain ⟨o1, z1, z2, z3, vs, rfl, hlen, rr⟩ := j2.cell hi1 (List.mem_cons_self ..)
  refine ⟨ks.zip vs, Sum.inl y, z1, rfl, by rw [List.length_zip, ← hlen]; omega, fun v hv => ?_, fun hn => ?_⟩
  · rcases valV_zip (k := Sum.inl y) hlen with ⟨m, e1, v', e2, e3⟩ | ⟨_, e3⟩
    · rw [hv] at e3; cases e3
      obtain ⟨dd, e4, e5⟩ := DRs.get' rr e2
      exact k dd ρ1 _ L0 L ⟨y, ρ1, w1, hsame, .inl ⟨m, e1, e4, rfl⟩⟩ (s1.trans g2.s0) j2 e5
    · rw [hv] at e3; cases e3
  · rcases valV_zip (k := Sum.inl y) hlen with ⟨m, e1, v', e2, e3⟩ | ⟨nk, _⟩
    · rw [hn] at e3; cases e3
    · rw [putK_zip hlen nk]
      have j3 := j1.more g2 hi1 w2 w3 w4 w5
      have hlt : i < ρ1.length := (List.getElem?_eq_some_iff.mp hi1).1
      have j4 := j3.put (i := i) (a := l) (c := .dk ks ds) (c' := .dk (ks ++ [Sum.inl y]) (ds ++ [.ad q])) (o := .dK ((ks ++ [Sum.inl y]).zip (vs ++ [V.ref q]))) (by rw [List.getElem?_set_self hlt]) (by simp) ⟨_, rfl, by simp [hlen], DRs.app rr (DRs.one (d := .ad q) (v := V.ref q) rfl)⟩
      rw [List.set_set] at j4
      refine k (.ad q) _ _ L0 _ ⟨y, ρ1, w1, hsame, .inr ⟨nk, q, fun hq => ?_, rfl, rfl⟩⟩ (s1.trans g2.s0) j4 rfl
      obtain ⟨_, _, _, _, nd⟩ := j3.get (i := i) (s := .ox (((l, .dk ks ds) :: cs) ++ [(q, .lst [])]) (.ad l)) (by rw [List.getElem?_set_self hlt])
      rw [List.map_append, List.nodup_append] at nd
      exact nd.2.2 q hq q (by simp) rfl
/-- x.setdefault(e, []).append(f), e an expression that changes other slots -/
theorem ws_linkP (i : Nat) {x : Str} {p1 p2 p3 p4 p5 p6 : Pos} {a : Addr} {ps : List Addr} {L : LkG} {e f : Expr} {v : D} {Ψ : D → En → Prop} (hi : ρ[i]? = some (.ox (gkC a ps L) (.ad a))) (he : EP X ρ e Ψ) (hΨ : ∀ d ρ1, Ψ d ρ1 → (∃ y : Int, d = .int y) ∧ ρ1[i]? = ρ[i]?) (hf : ∀ d ρ1 cs', Ψ d ρ1 → ED X (ρ1.set i (.ox cs' (.ad a))) f v) (hl : ps.length = L.length) (nd : (a :: ps).Nodup) (nk : (keyG L).Nodup)
    (hb : L.length < sizeLine) (hbv : ∀ p ∈ L, p.2.length < sizeLine) (hN : X.N[i]? = some x) (hv : Vis X.env.scope x) (m : M2 X (.Name x p1) "setdefault" p2 e (.List [] p3) p4)
    (hpe : ∀ {to : TE} {ta : TA}, L2.PE X (.Call (.Attribute (.Name x p1) "setdefault" p2) [e, .List [] p3] [] p4) to → L2.PA X [f] ta → L2.PS X (.Expr (.Call (.Attribute (.Call (.Attribute (.Name x p1) "setdefault" p2) [e, .List [] p3] [] p4) "append" p5) [f] [] p6) pos) (tDrop (tBM X.K "list" rAppend to ta)))
    (hΦ : ∀ (y : Int) ρ1, Ψ (.int y) ρ1 → ∀ ps', ps'.length = (addG L y v).length → (a :: ps').Nodup → Φ (.nx (ρ1.set i (.ox (gkC a ps' (addG L y v)) (.ad a)))))
    (hs : starEach [f] X.env = (false, eval f X.env) :: starEach [] X.env := by rfl) (hd : (x == ("__debug__" : Str)) = false := by decide) (hcd : (x == ("__classdict__" : Str)) = false := by decide) :
    WS X (.Expr (.Call (.Attribute (.Call (.Attribute (.Name x p1) "setdefault" p2) [e, .List [] p3] [] p4) "append" p5) [f] [] p6) pos) ρ Φ := by
  refine ws_appendEP (ep_setdefP (l := a) (ks := L.map fun p : Int × List D => kI p.1) (ds := ps.map D.ad) (cs := (ps.zip L).map fun q : Addr × Int × List D => (q.1, OC.lst q.2.2)) i hi he hΨ (by rw [List.length_map]; exact hb) m hN hv hd hcd) (fun d' ρ' w => ?_) hpe hs
  obtain ⟨y, ρ1, w1, hsame, w⟩ := w
  have hi1 : ρ1[i]? = some (.ox (gkC a ps L) (.ad a)) := hsame.trans hi
  have hlt : i < ρ1.length := (List.getElem?_eq_some_iff.mp hi1).1
  have same : ρ1.set i (.ox (gkC a ps L) (.ad a)) = ρ1 := by
    refine List.ext_getElem? fun k => ?_
    rw [List.getElem?_set]
    by_cases e : i = k
    · subst e; rw [if_pos rfl, if_pos hlt, hi1]
    · rw [if_neg e]
  rcases w with ⟨n, h1, h2, rfl⟩ | ⟨h1, q, h2, rfl, rfl⟩
  · obtain ⟨xs, hx⟩ := keyG_at h1
    rw [List.getElem?_map] at h2
    cases hq : ps[n]? with
    | none => rw [hq] at h2; cases h2
    | some q =>
      rw [hq] at h2
      cases h2
      refine ⟨i, gkC a ps L, .ad a, q, xs, v, rfl, hi1, List.mem_of_getElem? (gkC_at hq hx), ?_, hbv _ (List.mem_of_getElem? hx), ?_⟩
      · have := hf _ _ (gkC a ps L) w1; rw [same] at this; exact this
      · rw [gkC_old hl nd nk hq hx]
        exact hΦ y _ w1 ps (by rw [addG_old nk hx, List.length_set]; exact hl) nd
  · have h1' : y ∉ keyG L := fun z => h1 (mem_kG.mpr z)
    have hq : q ∉ a :: ps := by
      have : q ∉ (gkC a ps L).map (·.1) := h2
      rw [gkC_fst hl] at this; exact this
    refine ⟨i, _, .ad a, q, [], v, rfl, by rw [List.getElem?_set_self hlt], ?_, hf _ _ _ w1, by rw [sizeLine_eq]; decide, ?_⟩
    · refine List.mem_map.mpr ⟨(q, .lst []), List.mem_append_right _ (by simp), ?_⟩
      show (if q = a then _ else _) = _
      rw [if_neg fun e => hq (by rw [e]; exact List.mem_cons_self)]
    · rw [List.set_set]
      have e2 := gkC_new (v := v) hl nd hq h1'
      refine Eq.mpr (congrArg (fun c => Φ (.nx (ρ1.set i (.ox c (.ad a))))) e2) ?_
      exact hΦ y _ w1 (ps ++ [q]) (by rw [addG_new h1', List.length_append, List.length_append, hl]; rfl) (by
        rw [← List.cons_append]
        exact List.nodup_append.mpr ⟨nd, by simp, fun z hz b hb e => by simp at hb; subst hb; subst e; exact hq hz⟩)
end
end DL
namespace DL
open PySem PySem.Spec PyProof.Rows L2
section
variable {X : Cx} {ρ : En} {o : Expr} {pos apos cpos p : Pos}
theorem eo_listValsS {ks : List Key} {ds : List D} (hc : X.calm = true) (hg : Gl X "list") (hm : X.mg "list" = none) (ho : ED X ρ o (.dk ks ds)) (hbase : attributeBase o "values" X.env (eval o X.env) = eval o X.env := by rfl) (hline : (apos.endLine == cpos.line) = true := by rfl)
    (hs : starEach [.Call (.Attribute o "values" apos) [] [] cpos] X.env = [(false, eval (.Call (.Attribute o "values" apos) [] [] cpos) X.env)] := by rfl) :
    EO X ρ (.Call (.Name "list" p) [.Call (.Attribute o "values" apos) [] [] cpos] [] pos) (.lst ds) := fun B0 B σ H0 H Q j k => by
  refine RE.of (pe_listVals hc hg hm pe_star hbase hline hs) (ho B0 B σ H0 H _ j fun v G0 G g r => ?_)
  obtain ⟨a0, vs, rfl, h1, h2, h3⟩ := r
  refine ⟨a0, _, rfl, Same.rd g.sh h1, fun q hq => ?_⟩
  have hl : ks.length = vs.length := h2
  have e : (ks.zip vs).map (·.2) = vs := by rw [List.map_snd_zip (Nat.le_of_eq hl.symm)]
  rw [e]
  have g2 : JH G0 G G0 (upd G q (.lst vs)) := JH.own g.sh hq
  exact k q _ _ _ (g.trans g2) upd_same (g.sh.free hq) (g.sB.free hq) ⟨vs, rfl, h3⟩
end
abbrev LkV := List (Int × List Dev)
def addV : LkV → Int → Dev → LkV
  | [], k, v => [(k, [v])]
  | (a, xs) :: r, k, v => if a = k then (a, xs ++ [v]) :: r else (a, xs) :: addV r k v
def toG (M : LkV) : LkG := M.map fun p => (p.1, p.2.map Dev.e)
theorem toG_add (M : LkV) (k : Int) (v : Dev) : addG (toG M) k v.e = toG (addV M k v) := by
  induction M with
  | nil => rfl
  | cons p r ih =>
    obtain ⟨a, xs⟩ := p
    show (if a = k then (a, xs.map Dev.e ++ [v.e]) :: toG r else (a, xs.map Dev.e) :: addG (toG r) k v.e : LkG) = toG (if a = k then (a, xs ++ [v]) :: r else (a, xs) :: addV r k v)
    by_cases e : a = k
    · rw [if_pos e, if_pos e]; unfold toG; rw [List.map_cons, List.map_append]; rfl
    · rw [if_neg e, if_neg e, ih]; rfl
section
variable (P : Fx)
def frE (v : Dev) : List Int := [v.a, v.b].filter fun m => !fxB P m
def uprs (V : List Dev) : List (Nat × Nat) := (V.filter fun v => !fxB P v.a && !fxB P v.b).map fun v => (v.a.toNat, v.b.toNat)
def uFV (V : List Dev) : Nat → Nat := unis (uprs P V)
def rtV (V : List Dev) (v : Dev) : Int := ((uFV P V ((frE P v).headD 0).toNat : Nat) : Int)
def grS (V : List Dev) (M : LkV) (v : Dev) : LkV := if frE P v = [] then M else addV M (rtV P V v) v
def grV (V U : List Dev) : LkV := U.foldl (grS P V) []
theorem grV_snoc (V U : List Dev) (v : Dev) : grV P V (U ++ [v]) = grS P V (grV P V U) v := by unfold grV; rw [List.foldl_append]; rfl
theorem uprs_snoc (V : List Dev) (v : Dev) : uprs P (V ++ [v]) = uprs P V ++ if (!fxB P v.a && !fxB P v.b) = true then [(v.a.toNat, v.b.toNat)] else [] := by
  unfold uprs
  rw [List.filter_append, List.map_append]
  by_cases e : (!fxB P v.a && !fxB P v.b) = true
  · rw [if_pos e, List.filter_cons, if_pos e]; rfl
  · rw [if_neg e, List.filter_cons, if_neg e]; rfl
/-- the lists of the groups -/
def grL (V : List Dev) : List (List Dev) := (grV P V V).map (·.2)
end
theorem addV_len (M : LkV) (k : Int) (v : Dev) : (addV M k v).length ≤ M.length + 1 := by
  induction M with
  | nil => simp [addV]
  | cons p r ih =>
    obtain ⟨a, xs⟩ := p
    show (if a = k then _ else _ : LkV).length ≤ _
    split <;> simp <;> omega
theorem addV_bd {M : LkV} {k : Int} {v : Dev} {m : Nat} (h : ∀ p ∈ M, p.2.length ≤ m) : ∀ p ∈ addV M k v, p.2.length ≤ m + 1 := by
  induction M with
  | nil =>
    intro p hp
    rw [show addV [] k v = [(k, [v])] from rfl, List.mem_singleton] at hp
    rw [hp]; simp
  | cons q r ih =>
    obtain ⟨a, xs⟩ := q
    intro p hp
    have hx : xs.length ≤ m := h (a, xs) List.mem_cons_self
    have hr : ∀ p ∈ r, p.2.length ≤ m := fun p hp => h p (List.mem_cons_of_mem _ hp)
    by_cases e : a = k
    · rw [show addV ((a, xs) :: r) k v = (a, xs ++ [v]) :: r from if_pos e] at hp
      rcases List.mem_cons.mp hp with rfl | hp
      · simp; omega
      · have := hr p hp; omega
    · rw [show addV ((a, xs) :: r) k v = (a, xs) :: addV r k v from if_neg e] at hp
      rcases List.mem_cons.mp hp with rfl | hp
      · show xs.length ≤ m + 1; omega
      · exact ih hr p hp
theorem toG_key (M : LkV) : keyG (toG M) = M.map (·.1) := by unfold keyG toG; rw [List.map_map]; rfl
theorem addG_nd2 {M : LkV} {k : Int} {v : Dev} (h : (keyG (toG M)).Nodup) : (keyG (toG (addV M k v))).Nodup := by rw [← toG_add]; exact keyG_nodup _ _ _ h
theorem grV_ok (P : Fx) (V : List Dev) : ∀ U : List Dev, (keyG (toG (grV P V U))).Nodup ∧ (grV P V U).length ≤ U.length ∧ ∀ p ∈ grV P V U, p.2.length ≤ U.length := fun U => by
  have key : ∀ W : List Dev, (keyG (toG (grV P V W.reverse))).Nodup ∧ (grV P V W.reverse).length ≤ W.length ∧ ∀ p ∈ grV P V W.reverse, p.2.length ≤ W.length := fun W => by
    induction W with
    | nil => exact ⟨by simp [grV, toG, keyG], by simp [grV], by simp [grV]⟩
    | cons v W ih =>
      rw [List.reverse_cons, grV_snoc, List.length_cons]
      unfold grS
      by_cases e : frE P v = []
      · rw [if_pos e]
        exact ⟨ih.1, by omega, fun p hp => by have := ih.2.2 p hp; omega⟩
      · rw [if_neg e]
        exact ⟨addG_nd2 ih.1, by have := addV_len (grV P V W.reverse) (rtV P V v) v; omega, addV_bd ih.2.2⟩
  have := key U.reverse
  rwa [List.reverse_reverse, List.length_reverse] at this
end DL
namespace DL
open PySem PySem.Spec PyProof.Rows L2
theorem uni_keep {f : Nat → Nat} {i j a b : Nat} (h : f a = f b) : uni f i j a = uni f i j b := by unfold uni; rw [h]
theorem uni_pair (f : Nat → Nat) (i j : Nat) : uni f i j i = uni f i j j := by
  unfold uni
  rcases Nat.le_total (f i) (f j) with h | h
  · rw [Nat.max_eq_right h, Nat.min_eq_left h]
    by_cases e : f i = f j
    · rw [e]
    · rw [if_neg e, if_pos rfl]
  · rw [Nat.max_eq_left h, Nat.min_eq_right h]
    by_cases e : f j = f i
    · rw [e]
    · rw [if_pos rfl, if_neg e]
theorem unis_pair : ∀ (ps : List (Nat × Nat)) (f : Nat → Nat), (∀ a b, f a = f b → (ps.foldl (fun f p => uni f p.1 p.2) f) a = (ps.foldl (fun f p => uni f p.1 p.2) f) b) ∧ ∀ p ∈ ps, (ps.foldl (fun f p => uni f p.1 p.2) f) p.1 = (ps.foldl (fun f p => uni f p.1 p.2) f) p.2
  | [], f => ⟨fun _ _ h => h, fun p h => by cases h⟩
  | q :: ps, f => by
    obtain ⟨h1, h2⟩ := unis_pair ps (uni f q.1 q.2)
    refine ⟨fun a b h => h1 a b (uni_keep h), fun p hp => ?_⟩
    rcases List.mem_cons.mp hp with rfl | hp
    · exact h1 _ _ (uni_pair f _ _)
    · exact h2 p hp
section
variable {P : Fx} {V : List Dev} {n : Nat}
theorem both_root {v : Dev} (hv : v ∈ V) (ha : fxB P v.a = false) (hb : fxB P v.b = false) : uFV P V v.a.toNat = uFV P V v.b.toNat := by
  refine (unis_pair (uprs P V) fun i => i).2 (v.a.toNat, v.b.toNat) ?_
  unfold uprs
  exact List.mem_map.mpr ⟨v, List.mem_filter.mpr ⟨hv, by rw [ha, hb]; rfl⟩, rfl⟩
theorem frE_nil {v : Dev} : frE P v = [] ↔ fxB P v.a = true ∧ fxB P v.b = true := by
  unfold frE
  cases e1 : fxB P v.a <;> cases e2 : fxB P v.b <;> simp [e1, e2]
/-- the root of a free end is the device's -/
theorem rt_end {v : Dev} (hv : v ∈ V) {m : Int} (hm : v.a = m ∨ v.b = m) (hf : fxB P m = false) : rtV P V v = ((uFV P V m.toNat : Nat) : Int) := by
  unfold rtV frE
  cases ea : fxB P v.a with
  | false =>
    rw [List.filter_cons, if_pos (by rw [ea]; rfl)]
    show ((uFV P V v.a.toNat : Nat) : Int) = _
    rcases hm with rfl | rfl
    · rfl
    · rw [both_root hv ea hf]
  | true =>
    rcases hm with rfl | rfl
    · rw [ea] at hf; cases hf
    · rw [List.filter_cons, if_neg (by rw [ea]; decide), List.filter_cons, if_pos (by rw [hf]; rfl)]; rfl
def lookV (M : LkV) (r : Int) : List Dev := ((M.find? fun p => decide (p.1 = r)).map (·.2)).getD []
theorem lookV_add (M : LkV) (k : Int) (v : Dev) (r : Int) : lookV (addV M k v) r = if k = r then lookV M r ++ [v] else lookV M r := by
  induction M with
  | nil =>
    show ((([(k, [v])] : LkV).find? fun p => decide (p.1 = r)).map (·.2)).getD [] = _
    by_cases e : k = r <;> simp [e, lookV, List.find?]
  | cons p M ih =>
    obtain ⟨a, xs⟩ := p
    show lookV (if a = k then (a, xs ++ [v]) :: M else (a, xs) :: addV M k v) r = _
    unfold lookV at ih ⊢
    by_cases e : a = k
    · rw [if_pos e]
      by_cases e2 : a = r
      · simp [List.find?, e2, ← e]
      · have e3 : ¬ k = r := fun z => e2 (e.trans z)
        simp [List.find?, e2, e3]
    · rw [if_neg e]
      by_cases e2 : a = r
      · have e3 : ¬ k = r := fun z => e (e2.trans z.symm)
        simp [List.find?, e2, e3]
      · simp only [List.find?, e2, decide_false]
        exact ih
theorem lookV_gr (P : Fx) (V : List Dev) (r : Int) : ∀ U : List Dev, lookV (grV P V U) r = U.filter fun v => decide (frE P v ≠ []) && decide (rtV P V v = r) := fun U => by
  have key : ∀ W : List Dev, lookV (grV P V W.reverse) r = W.reverse.filter fun v => decide (frE P v ≠ []) && decide (rtV P V v = r) := fun W => by
    induction W with
    | nil => rfl
    | cons v W ih =>
      rw [List.reverse_cons, grV_snoc, List.filter_append]
      unfold grS
      by_cases e : frE P v = []
      · rw [if_pos e, ih]; simp [e]
      · rw [if_neg e, lookV_add, ih]
        by_cases e2 : rtV P V v = r
        · rw [if_pos e2]; simp [e, e2]
        · rw [if_neg e2]; simp [e2]
  have := key U.reverse
  rwa [List.reverse_reverse] at this
theorem lookV_mem : ∀ {M : LkV} {r : Int} {G : List Dev}, (keyG (toG M)).Nodup → (r, G) ∈ M → lookV M r = G
  | [], _, _, _, h => by cases h
  | (a, xs) :: M, r, G, nd, h => by
    rw [toG_key] at nd
    rcases List.mem_cons.mp h with e | h
    · cases e; simp [lookV, List.find?]
    · have nd := List.nodup_cons.mp nd
      have hne : a ≠ r := fun e => nd.1 (by rw [e]; exact List.mem_map.mpr ⟨_, h, rfl⟩)
      have ih := lookV_mem (M := M) (by rw [toG_key]; exact nd.2) h
      unfold lookV at ih ⊢
      simp only [List.find?, hne, decide_false]
      exact ih
/-- the free nets of a group -/
def FrN (P : Fx) (V : List Dev) (r m : Int) : Prop := fxB P m = false ∧ ((uFV P V m.toNat : Nat) : Int) = r
theorem gr_mem {r : Int} {G : List Dev} (h : (r, G) ∈ grV P V V) (v : Dev) : v ∈ G ↔ v ∈ V ∧ frE P v ≠ [] ∧ rtV P V v = r := by
  rw [← lookV_mem (grV_ok P V V).1 h, lookV_gr, List.mem_filter, Bool.and_eq_true, decide_eq_true_iff, decide_eq_true_iff]
theorem gr_grp {r : Int} {G : List Dev} (h : (r, G) ∈ grV P V V) : GrpV P V G (FrN P V r) := by
  refine ⟨fun v hv => ((gr_mem h v).mp hv).1, fun v hv => ?_, fun v hv hF => ?_, fun m hm => hm.1⟩
  · obtain ⟨h1, h2, h3⟩ := (gr_mem h v).mp hv
    refine ⟨?_, ?_⟩
    · cases e : fxB P v.a with
      | true => exact .inl rfl
      | false => exact .inr ⟨e, by rw [← rt_end h1 (.inl rfl) e, h3]⟩
    · cases e : fxB P v.b with
      | true => exact .inl rfl
      | false => exact .inr ⟨e, by rw [← rt_end h1 (.inr rfl) e, h3]⟩
  · refine (gr_mem h v).mpr ⟨hv, fun z => ?_, ?_⟩
    · have := frE_nil.mp z
      rcases hF with ⟨y, _⟩ | ⟨y, _⟩
      · rw [this.1] at y; cases y
      · rw [this.2] at y; cases y
    · rcases hF with ⟨y, e⟩ | ⟨y, e⟩
      · rw [rt_end hv (.inl rfl) y, e]
      · rw [rt_end hv (.inr rfl) y, e]
/-- a key is there when a device has it -/
theorem gr_has {v : Dev} (hv : v ∈ V) (hf : frE P v ≠ []) : ∃ G, (rtV P V v, G) ∈ grV P V V := by
  have h1 := lookV_gr P V (rtV P V v) V
  have h2 : v ∈ lookV (grV P V V) (rtV P V v) := by rw [h1, List.mem_filter, Bool.and_eq_true, decide_eq_true_iff, decide_eq_true_iff]; exact ⟨hv, hf, rfl⟩
  unfold lookV at h2
  cases e : (grV P V V).find? fun p => decide (p.1 = rtV P V v) with
  | none => rw [e] at h2; cases h2
  | some p =>
    have e1 : p.1 = rtV P V v := by have := List.find?_some e; simpa using this
    have e2 := List.mem_of_find?_eq_some e
    exact ⟨p.2, by rw [← e1]; exact e2⟩
/-- what is known is known in a group -/
theorem kn_grp {z c : Str} {m : Int} : KnC P V z m c ↔ ∃ G ∈ grL P V, KnC P G z m c := by
  constructor
  · intro h
    obtain ⟨q, hq, e, h1, h2⟩ := h
    have h1' := h1
    rw [sur_rch] at h1'
    have hf := h1'.free
    obtain ⟨v, hv, hm⟩ : ∃ v ∈ V, v.a = m ∨ v.b = m := by
      cases h1' with
      | base hs he _ => obtain ⟨v, hv, _, hl⟩ := he; exact ⟨v, hv, by rcases hl with ⟨_, e⟩ | ⟨_, e⟩; exact .inr e; exact .inl e⟩
      | step hr he _ => obtain ⟨v, hv, _, hl⟩ := he; exact ⟨v, hv, by rcases hl with ⟨_, e⟩ | ⟨_, e⟩; exact .inr e; exact .inl e⟩
    have hfr : frE P v ≠ [] := fun y => by
      have := frE_nil.mp y
      rcases hm with rfl | rfl
      · rw [this.1] at hf; cases hf
      · rw [this.2] at hf; cases hf
    obtain ⟨G, hG⟩ := gr_has hv hfr
    exact ⟨G, List.mem_map.mpr ⟨_, hG, rfl⟩, (gr_grp hG).kn.mpr ⟨⟨hf, (rt_end hv hm hf).symm⟩, q, hq, e, h1, h2⟩⟩
  · rintro ⟨G, hG, h⟩
    obtain ⟨p, hp, rfl⟩ := List.mem_map.mp hG
    exact ((gr_grp (r := p.1) (G := p.2) hp).kn.mp h).2
/-- only the gates of a group count -/
theorem kn_gate {G : List Dev} {z w c : Str} {m : Int} (h : ∀ v ∈ G, vlS z v.g = vlS w v.g) : KnC P G z m c ↔ KnC P G w m c := by
  have e1 : ∀ (cs : List Str) (a b : Int), (∃ v ∈ G, cdB cs z v = true ∧ lnkd v a b) ↔ ∃ v ∈ G, cdB cs w v = true ∧ lnkd v a b := fun cs a b => by
    constructor
    · rintro ⟨v, hv, hc, hl⟩
      exact ⟨v, hv, by unfold cdB at hc ⊢; rw [← h v hv]; exact hc, hl⟩
    · rintro ⟨v, hv, hc, hl⟩
      exact ⟨v, hv, by unfold cdB at hc ⊢; rw [h v hv]; exact hc, hl⟩
  have s : ∀ c, m ∈ surP P G z c ↔ m ∈ surP P G w c := fun c => by rw [sur_rch, sur_rch]; exact Rch.iff (e1 sureS) fun _ => rfl
  have k : ∀ c, m ∈ conP P G z c ↔ m ∈ conP P G w c := fun c => by rw [con_rch, con_rch]; exact Rch.iff (e1 perhS) fun _ => rfl
  unfold KnC
  constructor
  · rintro ⟨q, hq, e, h1, h2⟩
    exact ⟨q, hq, e, (s _).mp h1, fun y => h2 ((k _).mpr y)⟩
  · rintro ⟨q, hq, e, h1, h2⟩
    exact ⟨q, hq, e, (s _).mpr h1, fun y => h2 ((k _).mp y)⟩
end
end DL
namespace DL
open PySem PySem.Spec PyProof.Rows L2
section
variable {n : Nat} {P : Fx} {V : List Dev} {z w : Str}
theorem KnC.free {m : Int} {c : Str} (h : KnC P V z m c) : fxB P m = false := by
  obtain ⟨q, _, _, h1, _⟩ := h
  rw [sur_rch] at h1
  exact h1.free
theorem KnC.rng (ok : ∀ v ∈ V, DevOk (n : Int) v) {m : Int} {c : Str} (h : KnC P V z m c) : 0 ≤ m ∧ m < (n : Int) := by
  obtain ⟨q, _, _, h1, _⟩ := h
  rw [sur_rch] at h1
  obtain ⟨v, hv, hm⟩ : ∃ v ∈ V, v.a = m ∨ v.b = m := by
    cases h1 with
    | base hs he _ => obtain ⟨v, hv, _, hl⟩ := he; exact ⟨v, hv, by rcases hl with ⟨_, e⟩ | ⟨_, e⟩; exact .inr e; exact .inl e⟩
    | step hr he _ => obtain ⟨v, hv, _, hl⟩ := he; exact ⟨v, hv, by rcases hl with ⟨_, e⟩ | ⟨_, e⟩; exact .inr e; exact .inl e⟩
  have := (ok v hv).e
  rcases hm with rfl | rfl <;> omega
theorem KnC.ne_x {m : Int} {c : Str} (h : KnC P V z m c) : c ≠ ("x" : Str) := by
  rcases h.sign with rfl | rfl <;> decide +kernel
/-- the state between rounds: the values and the groups that are due -/
structure SInv (n : Nat) (V : List Dev) (P : Fx) (z : Str) (due : List Nat) : Prop where
  len : z.cps.toList.length = n
  fx : ∀ m, 0 ≤ m → m < (n : Int) → fxB P m = true → vlS z m = fvS P m
  j : Jst n V P z
  cl : ∀ k G, k ∉ due → (grL P V)[k]? = some G → ∀ m c, KnC P G z m c → vlS z m = c
/-- a known value is the one that its reasons say -/
theorem jst_kn (hP : FxS P) (ok : ∀ v ∈ V, DevOk (n : Int) v) (j : Jst n V P z) {m : Int} {c : Str} (h : KnC P V z m c) (hx : vlS z m ≠ ("x" : Str)) : vlS z m = c := by
  obtain ⟨h0, h1⟩ := h.rng ok
  have c2 := nx_clo hP (it_end (V := V) hP ok)
  have e1 := j _ c2 m h0 h1 hx
  have e2 := c2.cl m c h0 h1 h.free (h.mono ok (j _ c2))
  rw [← e1, e2]
theorem sinv_start (hP : FxS P) : SInv n V P (z0S n P) (List.range (grL P V).length) :=
  ⟨z0_len hP, fun m h0 h1 hf => by rw [z0_at hP h0 h1, if_pos hf], z0_jst hP, fun k G hk hG => absurd (List.mem_range.mpr (List.getElem?_eq_some_iff.mp hG).1) hk⟩
theorem sinv_end (hP : FxS P) (ok : ∀ v ∈ V, DevOk (n : Int) v) (h : SInv n V P z []) : z = itZ n V P (n + 1) :=
  settled_eq hP ok h.len ⟨h.fx, fun m c _ _ _ hk => by
    obtain ⟨G, hG, hk⟩ := kn_grp.mp hk
    obtain ⟨k, hk2⟩ := List.getElem?_of_mem hG
    exact h.cl k G (by simp) hk2 m c hk⟩ h.j
/-- one round -/
structure SStep (n : Nat) (V : List Dev) (P : Fx) (z : Str) (due : List Nat) (w : Str) (due2 : List Nat) : Prop where
  len : w.cps.toList.length = n
  old : ∀ m, 0 ≤ m → m < (n : Int) → vlS w m = vlS z m ∨ (vlS z m = ("x" : Str) ∧ ∃ k ∈ due, ∃ G, (grL P V)[k]? = some G ∧ KnC P G z m (vlS w m))
  new : ∀ k ∈ due, ∀ G, (grL P V)[k]? = some G → ∀ m c, KnC P G z m c → vlS z m = ("x" : Str) → vlS w m = c
  gts : ∀ k G, k ∉ due2 → (grL P V)[k]? = some G → ∀ v ∈ G, vlS w v.g = vlS z v.g
theorem SStep.le (s : SStep n V P z due w due2) : LeV (n : Int) z w := fun m h0 h1 hx => by
  rcases s.old m h0 h1 with e | ⟨e, _⟩
  · exact e
  · exact absurd e hx
theorem sinv_step (hP : FxS P) (ok : ∀ v ∈ V, DevOk (n : Int) v) {due due2 : List Nat} (h : SInv n V P z due) (s : SStep n V P z due w due2) : SInv n V P w due2 := by
  refine ⟨s.len, fun m h0 h1 hf => ?_, fun u hu m h0 h1 hx => ?_, fun k G hk hG m c hkn => ?_⟩
  · rcases s.old m h0 h1 with e | ⟨_, k, _, G, hG, hkn⟩
    · rw [e]; exact h.fx m h0 h1 hf
    · have := hkn.free; rw [hf] at this; cases this
  · rcases s.old m h0 h1 with e | ⟨_, k, _, G, hG, hkn⟩
    · rw [e] at hx ⊢; exact h.j u hu m h0 h1 hx
    · have hV : KnC P V z m (vlS w m) := kn_grp.mpr ⟨G, List.mem_of_getElem? hG, hkn⟩
      exact hu.cl m _ h0 h1 hV.free (hV.mono ok (h.j u hu))
  · have hz : KnC P G z m c := (kn_gate (s.gts k G hk hG)).mp hkn
    have hV : KnC P V z m c := kn_grp.mpr ⟨G, List.mem_of_getElem? hG, hz⟩
    obtain ⟨h0, h1⟩ := hV.rng ok
    by_cases hx : vlS z m = ("x" : Str)
    · by_cases hd : k ∈ due
      · exact s.new k hd G hG m c hz hx
      · have := h.cl k G hd hG m c hz
        rw [hx] at this
        exact absurd this.symm hV.ne_x
    · rw [s.le m h0 h1 hx]
      exact jst_kn hP ok h.j hV hx
end
/-- the values as a list -/
def valL (n : Nat) (z : Str) : List Str := (List.range n).map fun (t : Nat) => vlS z (t : Int)
theorem valL_at {n : Nat} {z : Str} {g : Int} (h0 : 0 ≤ g) (h1 : g < (n : Int)) : atI ((valL n z).map D.str) g = some (.str (vlS z g)) := by
  have := atI_nat (xs := (valL n z).map D.str) (j := g.toNat) (v := D.str (vlS z ((g.toNat : Nat) : Int))) (by unfold valL; rw [List.getElem?_map, List.getElem?_map, List.getElem?_range (by omega)]; rfl)
  rwa [show ((g.toNat : Nat) : Int) = g by omega] at this
theorem valL_len (n : Nat) (z : Str) : (valL n z).length = n := by unfold valL; rw [List.length_map, List.length_range]
end DL
namespace DL
open PySem PySem.Spec PyProof.Rows L2
theorem cut_tk8 (l : List D) {k : Int} (h : 0 ≤ k) : cutD l none (some k) = l.take k.toNat := by
  unfold cutD
  have h1 : HT.sIx l.length 0 none = 0 := rfl
  have h2 : HT.sIx l.length l.length (some k) = min k.toNat l.length := by
    unfold HT.sIx
    simp only
    split <;> omega
  rw [h1, h2]
  rw [List.drop_zero, Nat.sub_zero]
  rcases Nat.le_total k.toNat l.length with q | q
  · rw [Nat.min_eq_left q]
  · rw [Nat.min_eq_right q, List.take_of_length_le q, List.take_of_length_le (Nat.le_refl _)]
end DL
namespace DL
open PySem PySem.Spec PyProof.Rows L2
theorem fxB_iff {C : Fx} {m : Int} : fxB C m = true ↔ ∃ p ∈ C, p.1 = m := by
  unfold fxB
  rw [hasK_iff]
  constructor
  · intro h
    obtain ⟨p, hp, e⟩ := List.mem_map.mp h
    exact ⟨p, hp, kI_inj e⟩
  · rintro ⟨p, hp, rfl⟩
    exact List.mem_map.mpr ⟨p, hp, rfl⟩
section
variable {n : Nat} {P : Fx} {V G : List Dev} {z : Str}
theorem knw_in {p : Int × Str} (h : p ∈ knw P G z) : KnC P G z p.1 p.2 := by
  unfold knw knI at h
  obtain ⟨l, hl, hp⟩ := List.mem_flatten.mp h
  obtain ⟨q, hq, rfl⟩ := List.mem_map.mp hl
  unfold knQ knF at hp
  obtain ⟨y, hy, rfl⟩ := List.mem_map.mp hp
  obtain ⟨h1, h2⟩ := List.mem_filter.mp hy
  exact ⟨q, List.mem_of_mem_take hq, rfl, h1, by simpa using h2⟩
theorem knw_of {m : Int} {c : Str} (h : KnC P G z m c) : (m, c) ∈ knw P G z := by
  have h1 : fxB (knw P G z) m = true := knw_iff.mpr ⟨c, h⟩
  have h2 := fvS_in h1
  rwa [knw_fv h] at h2
theorem knQ_nd (q : Str × Str) : ((knQ P G z q).map (·.1)).Nodup := by
  unfold knQ knF
  rw [List.map_map]
  have e : ((surP P G z q.1).filter fun n => !decide (n ∈ conP P G z q.2)).map ((fun x : Int × Str => x.1) ∘ fun n => (n, q.1)) = ((surP P G z q.1).filter fun n => !decide (n ∈ conP P G z q.2)) := by
    have : ((fun x : Int × Str => x.1) ∘ fun n : Int => (n, q.1)) = id := rfl
    rw [this, List.map_id]
  rw [e]
  exact (pul_in (P := P) (pl := [q.1]) (lnk_ok (cdB sureS z) G)).1.filter _
theorem knw_nd : ((knw P G z).map (·.1)).Nodup := by
  rw [knw_eq, List.map_append, List.nodup_append]
  refine ⟨knQ_nd _, knQ_nd _, fun a ha b hb e => ?_⟩
  obtain ⟨p, hp, rfl⟩ := List.mem_map.mp ha
  obtain ⟨r, hr, rfl⟩ := List.mem_map.mp hb
  have k1 : KnC P G z p.1 p.2 := knw_in (by rw [knw_eq]; exact List.mem_append_left _ hp)
  have k2 : KnC P G z r.1 r.2 := knw_in (by rw [knw_eq]; exact List.mem_append_right _ hr)
  have ev : ∀ (q : Str × Str) (p : Int × Str), p ∈ knQ P G z q → p.2 = q.1 := fun q p hp => by
    unfold knQ knF at hp
    obtain ⟨y, hy, rfl⟩ := List.mem_map.mp hp
    rfl
  have e1 := ev _ _ hp
  have e2 := ev _ _ hr
  rw [e] at k1
  have := k1.uniq k2
  rw [e1, e2] at this
  exact absurd this (by decide +kernel)
/-- what becomes known in a group -/
def chG (P : Fx) (z : Str) (G : List Dev) : Fx := (knw P G z).filter fun p => decide (vlS z p.1 = ("x" : Str))
/-- what becomes known in the groups that are due -/
def chS (V : List Dev) (P : Fx) (z : Str) (due : List Nat) : Fx := due.flatMap fun k => chG P z ((grL P V).getD k [])
theorem chS_snoc (due : List Nat) (k : Nat) : chS V P z (due ++ [k]) = chS V P z due ++ chG P z ((grL P V).getD k []) := by unfold chS; rw [List.flatMap_append]; simp
theorem chG_in {p : Int × Str} : p ∈ chG P z G ↔ KnC P G z p.1 p.2 ∧ vlS z p.1 = ("x" : Str) := by
  unfold chG
  rw [List.mem_filter, decide_eq_true_iff]
  exact ⟨fun h => ⟨knw_in h.1, h.2⟩, fun h => ⟨knw_of h.1, h.2⟩⟩
theorem chG_nd : ((chG P z G).map (·.1)).Nodup := by
  unfold chG
  exact knw_nd.sublist (List.filter_sublist.map _)
theorem gr_one {k k' : Nat} {G' : List Dev} {m : Int} {c d : Str} (h : (grL P V)[k]? = some G) (h' : (grL P V)[k']? = some G') (hk : KnC P G z m c) (hk' : KnC P G' z m d) : k = k' := by
  unfold grL at h h'
  rw [List.getElem?_map] at h h'
  cases e : (grV P V V)[k]? with
  | none => rw [e] at h; cases h
  | some p =>
    cases e' : (grV P V V)[k']? with
    | none => rw [e'] at h'; cases h'
    | some p' =>
      rw [e] at h; rw [e'] at h'
      cases h; cases h'
      have f := (gr_grp (r := p.1) (G := p.2) (List.mem_of_getElem? e)).kn.mp hk
      have f' := (gr_grp (r := p'.1) (G := p'.2) (List.mem_of_getElem? e')).kn.mp hk'
      have er : p.1 = p'.1 := f.1.2.symm.trans f'.1.2
      have nd := (grV_ok P V V).1
      rw [toG_key] at nd
      have g1 : ((grV P V V).map (·.1))[k]? = some p.1 := by rw [List.getElem?_map, e]; rfl
      have g2 : ((grV P V V).map (·.1))[k']? = some p.1 := by rw [List.getElem?_map, e', er]; rfl
      exact (List.getElem?_inj (List.getElem?_eq_some_iff.mp g1).1 nd).mp (g1.trans g2.symm)
theorem chS_in {due : List Nat} (hd : ∀ k ∈ due, k < (grL P V).length) {p : Int × Str} : p ∈ chS V P z due ↔ ∃ k ∈ due, ∃ G, (grL P V)[k]? = some G ∧ KnC P G z p.1 p.2 ∧ vlS z p.1 = ("x" : Str) := by
  unfold chS
  rw [List.mem_flatMap]
  constructor
  · rintro ⟨k, hk, hp⟩
    have hlt := hd k hk
    refine ⟨k, hk, (grL P V)[k], by rw [List.getElem?_eq_getElem hlt], chG_in.mp ?_⟩
    rwa [List.getD_eq_getElem?_getD, List.getElem?_eq_getElem hlt] at hp
  · rintro ⟨k, hk, G, hG, h⟩
    refine ⟨k, hk, ?_⟩
    rw [List.getD_eq_getElem?_getD, hG]
    exact chG_in.mpr h
theorem chS_nd : ∀ {due : List Nat}, (∀ k ∈ due, k < (grL P V).length) → due.Nodup → ((chS V P z due).map (·.1)).Nodup
  | [], _, _ => by simp [chS]
  | k :: due, hd, nd => by
    have ih := chS_nd (due := due) (fun k hk => hd k (List.mem_cons_of_mem _ hk)) (List.nodup_cons.mp nd).2
    have e : chS V P z (k :: due) = chG P z ((grL P V).getD k []) ++ chS V P z due := rfl
    rw [e, List.map_append, List.nodup_append]
    refine ⟨chG_nd, ih, fun a ha b hb e => ?_⟩
    obtain ⟨p, hp, rfl⟩ := List.mem_map.mp ha
    obtain ⟨r, hr, rfl⟩ := List.mem_map.mp hb
    obtain ⟨k', hk', G', hG', hn, _⟩ := (chS_in (fun k hk => hd k (List.mem_cons_of_mem _ hk))).mp hr
    have hlt := hd k List.mem_cons_self
    rw [List.getD_eq_getElem?_getD, List.getElem?_eq_getElem hlt] at hp
    have h1 := (chG_in.mp hp).1
    rw [e] at h1
    have := gr_one (List.getElem?_eq_getElem hlt) hG' h1 hn
    exact (List.nodup_cons.mp nd).1 (this ▸ hk')
/-- the values with what was found -/
def upS (z : Str) (C : Fx) (t : Int) : Str := if fxB C t = true then fvS C t else vlS z t
def upL (n : Nat) (z : Str) (C : Fx) : List Str := (List.range n).map fun (t : Nat) => upS z C (t : Int)
def upZ (n : Nat) (z : Str) (C : Fx) : Str := Str.join "" (upL n z C)
theorem upL_len (C : Fx) : (upL n z C).length = n := by unfold upL; rw [List.length_map, List.length_range]
theorem upL_set {C : Fx} {m : Int} {v : Str} (h0 : 0 ≤ m) (h1 : m < (n : Int)) (hC : fxB C m = false) : (upL n z C).set m.toNat v = upL n z (C ++ [(m, v)]) := by
  refine List.ext_getElem? fun t => ?_
  rw [List.getElem?_set]
  unfold upL
  rw [List.length_map, List.length_range, List.getElem?_map, List.getElem?_map]
  have hB : ∀ t : Int, fxB [(m, v)] t = decide (m = t) := fun t => by
    rw [Bool.eq_iff_iff, fxB_iff, decide_eq_true_iff]
    simp
  by_cases e : m.toNat = t
  · rw [if_pos e, if_pos (by omega), List.getElem?_range (by omega)]
    have e2 : (t : Int) = m := by omega
    show some v = some (upS z (C ++ [(m, v)]) (t : Int))
    unfold upS
    rw [e2, fxB_app, hC, hB, fvS_app, hC]
    simp [fvS]
  · rw [if_neg e]
    by_cases ht : t < n
    · rw [List.getElem?_range ht]
      show some (upS z C (t : Int)) = some (upS z (C ++ [(m, v)]) (t : Int))
      unfold upS
      rw [fxB_app, hB, fvS_app, decide_eq_false (show ¬ m = (t : Int) by omega), Bool.or_false]
      by_cases hb : fxB C (t : Int) = true
      · rw [if_pos hb, if_pos hb, if_pos hb]
      · rw [if_neg hb, if_neg hb]
    · rw [List.getElem?_eq_none (by rw [List.length_range]; omega)]
      rfl
theorem up_one {C : Fx} (hC : ∀ p ∈ C, p.2 = ("0" : Str) ∨ p.2 = ("1" : Str)) (t : Int) : OneS (upS z C t) := by
  unfold upS
  split
  · rename_i h
    rcases hC _ (fvS_in h) with e | e
    · rw [show fvS C t = "0" from e]; exact ⟨48, sg_0⟩
    · rw [show fvS C t = "1" from e]; exact ⟨49, sg_1⟩
  · exact ⟨_, rfl⟩
theorem upL_one {C : Fx} (hC : ∀ p ∈ C, p.2 = ("0" : Str) ∨ p.2 = ("1" : Str)) : ∀ s ∈ upL n z C, OneS s := fun s hs => by
  unfold upL at hs
  obtain ⟨t, _, rfl⟩ := List.mem_map.mp hs
  exact up_one hC _
theorem upZ_len {C : Fx} (hC : ∀ p ∈ C, p.2 = ("0" : Str) ∨ p.2 = ("1" : Str)) : (upZ n z C).cps.toList.length = n := by
  unfold upZ
  rw [(sv_join (upL_one hC)).1, upL_len]
theorem upZ_at {C : Fx} (hC : ∀ p ∈ C, p.2 = ("0" : Str) ∨ p.2 = ("1" : Str)) {m : Int} (h0 : 0 ≤ m) (h1 : m < (n : Int)) : vlS (upZ n z C) m = upS z C m := by
  have := (sv_join (upL_one (n := n) (z := z) hC)).2 m.toNat (by rw [upL_len]; omega)
  rw [show ((m.toNat : Nat) : Int) = m by omega] at this
  unfold upZ
  rw [this, List.getD_eq_getElem?_getD]
  unfold upL
  rw [List.getElem?_map, List.getElem?_range (by omega)]
  show upS z C ((m.toNat : Nat) : Int) = _
  rw [show ((m.toNat : Nat) : Int) = m by omega]
theorem upZ_val {C : Fx} (hC : ∀ p ∈ C, p.2 = ("0" : Str) ∨ p.2 = ("1" : Str)) : valL n (upZ n z C) = upL n z C := by
  unfold valL upL
  refine List.map_congr_left fun t ht => ?_
  have ht := List.mem_range.mp ht
  exact upZ_at hC (by omega) (by omega)
theorem chS_sg {due : List Nat} (hd : ∀ k ∈ due, k < (grL P V).length) : ∀ p ∈ chS V P z due, p.2 = ("0" : Str) ∨ p.2 = ("1" : Str) := fun p hp => by
  obtain ⟨_, _, _, _, h, _⟩ := (chS_in hd).mp hp
  exact h.sign
/-- the groups that watch what was found -/
noncomputable def wtD (V : List Dev) (P C : Fx) : List Int := (C.map (·.1)).flatMap fun m => nbL (watL (grL P V)) m
noncomputable def due2 (V : List Dev) (P C : Fx) : List Nat := (srtU (wtD V P C)).map Int.toNat
theorem wat_nb {Gs : List (List Dev)} {m i : Int} : i ∈ nbL (watL Gs) m ↔ ∃ k : Nat, k < Gs.length ∧ i = (k : Int) ∧ ∃ v ∈ Gs.getD k [], v.g = m := by
  unfold watL
  rw [adds_nb]
  unfold wad gatS
  simp only [List.mem_map, List.mem_filter, List.mem_flatMap, List.mem_range, decide_eq_true_eq]
  constructor
  · rintro ⟨p, ⟨⟨k, hk, g, hg, rfl⟩, e⟩, rfl⟩
    rw [mem_srtU] at hg
    obtain ⟨v, hv, rfl⟩ := List.mem_map.mp hg
    exact ⟨k, hk, rfl, v, hv, e⟩
  · rintro ⟨k, hk, rfl, v, hv, rfl⟩
    exact ⟨(v.g, (k : Int)), ⟨⟨k, hk, v.g, by rw [mem_srtU]; exact List.mem_map.mpr ⟨v, hv, rfl⟩, rfl⟩, rfl⟩, rfl⟩
theorem due2_D {C : Fx} : (due2 V P C).map (fun k : Nat => D.int (k : Int)) = (srtU (wtD V P C)).map D.int := by
  unfold due2
  rw [List.map_map]
  refine List.map_congr_left fun i hi => ?_
  rw [mem_srtU] at hi
  unfold wtD at hi
  obtain ⟨m, _, hi⟩ := List.mem_flatMap.mp hi
  obtain ⟨k, _, rfl, _⟩ := wat_nb.mp hi
  rfl
theorem due2_in {C : Fx} {k : Nat} : k ∈ due2 V P C ↔ k < (grL P V).length ∧ ∃ p ∈ C, ∃ v ∈ (grL P V).getD k [], v.g = p.1 := by
  unfold due2
  constructor
  · intro h
    obtain ⟨i, hi, rfl⟩ := List.mem_map.mp h
    rw [mem_srtU] at hi
    unfold wtD at hi
    obtain ⟨m, hm, hi⟩ := List.mem_flatMap.mp hi
    obtain ⟨p, hp, rfl⟩ := List.mem_map.mp hm
    obtain ⟨k, hk, rfl, v, hv, e⟩ := wat_nb.mp hi
    exact ⟨hk, p, hp, v, hv, e⟩
  · rintro ⟨hk, p, hp, v, hv, e⟩
    refine List.mem_map.mpr ⟨(k : Int), ?_, rfl⟩
    rw [mem_srtU]
    unfold wtD
    exact List.mem_flatMap.mpr ⟨p.1, List.mem_map.mpr ⟨p, hp, rfl⟩, wat_nb.mpr ⟨k, hk, rfl, v, hv, e⟩⟩
theorem asc_nd : ∀ {l : List Int}, Asc l → l.Nodup := fun {l} h => by
  have key : ∀ l : List Int, Asc l → l.Nodup := by
    intro l h
    unfold Asc at h
    exact h.imp fun {a b} hab e => by omega
  exact key l h
theorem due2_nd {C : Fx} : (due2 V P C).Nodup := by
  have h : ((due2 V P C).map fun k : Nat => (k : Int)).Nodup := by
    have e : (due2 V P C).map (fun k : Nat => (k : Int)) = srtU (wtD V P C) := by
      have := congrArg (List.map fun d : D => match d with | .int i => i | _ => 0) (due2_D (V := V) (P := P) (C := C))
      rw [List.map_map, List.map_map] at this
      have f1 : ((fun d : D => match d with | .int i => i | _ => 0) ∘ fun k : Nat => D.int (k : Int)) = fun k : Nat => (k : Int) := rfl
      have f2 : ((fun d : D => match d with | .int i => i | _ => 0) ∘ D.int) = id := rfl
      rw [f1, f2, List.map_id] at this
      exact this
    rw [e]
    exact asc_nd (asc_srtU _)
  exact List.Pairwise.of_map _ (fun a b hab e => hab (by rw [e])) h
/-- the round -/
theorem ss_step (hP : FxS P) (ok : ∀ v ∈ V, DevOk (n : Int) v) {due : List Nat} (hd : ∀ k ∈ due, k < (grL P V).length) (nd : due.Nodup) (hz : z.cps.toList.length = n) : SStep n V P z due (upZ n z (chS V P z due)) (due2 V P (chS V P z due)) := by
  have hC := chS_sg (z := z) hd
  have hnd := chS_nd (z := z) hd nd
  have hin : ∀ {m : Int}, fxB (chS V P z due) m = true → ∃ k ∈ due, ∃ G, (grL P V)[k]? = some G ∧ KnC P G z m (fvS (chS V P z due) m) ∧ vlS z m = ("x" : Str) := fun {m} h => by
    have := fvS_in h
    exact (chS_in hd).mp this
  have rng : ∀ {G : List Dev} {m : Int} {c : Str} {k : Nat}, (grL P V)[k]? = some G → KnC P G z m c → 0 ≤ m ∧ m < (n : Int) := fun {G m c k} hG h => (kn_grp.mpr ⟨G, List.mem_of_getElem? hG, h⟩ : KnC P V z m c).rng ok
  refine ⟨upZ_len hC, fun m h0 h1 => ?_, fun k hk G hG m c hkn hx => ?_, fun k G hk hG v hv => ?_⟩
  · rw [upZ_at hC h0 h1]
    unfold upS
    by_cases hb : fxB (chS V P z due) m = true
    · rw [if_pos hb]
      obtain ⟨k, hk, G, hG, h, hx⟩ := hin hb
      exact .inr ⟨hx, k, hk, G, hG, h⟩
    · rw [if_neg hb]; exact .inl rfl
  · obtain ⟨h0, h1⟩ := rng hG hkn
    rw [upZ_at hC h0 h1]
    unfold upS
    have hm : (m, c) ∈ chS V P z due := (chS_in hd).mpr ⟨k, hk, G, hG, hkn, hx⟩
    have hb : fxB (chS V P z due) m = true := fxB_iff.mpr ⟨_, hm, rfl⟩
    rw [if_pos hb]
    obtain ⟨k', hk', G', hG', h', _⟩ := hin hb
    have a1 : KnC P V z m c := kn_grp.mpr ⟨G, List.mem_of_getElem? hG, hkn⟩
    have a2 : KnC P V z m (fvS (chS V P z due) m) := kn_grp.mpr ⟨G', List.mem_of_getElem? hG', h'⟩
    exact a2.uniq a1
  · have hGm : v ∈ V := by
      obtain ⟨p, hp, e⟩ := List.mem_map.mp (List.mem_of_getElem? hG : G ∈ grL P V)
      subst e
      exact ((gr_mem (r := p.1) (G := p.2) hp v).mp hv).1
    have hg := (ok v hGm).g
    rw [upZ_at hC hg.1 hg.2]
    unfold upS
    by_cases hb : fxB (chS V P z due) v.g = true
    · refine absurd (due2_in.mpr ⟨(List.getElem?_eq_some_iff.mp hG).1, _, fvS_in hb, v, ?_, rfl⟩) hk
      rw [List.getD_eq_getElem?_getD, hG]; exact hv
    · rw [if_neg hb]
theorem grL_len (P : Fx) (V : List Dev) : (grL P V).length ≤ V.length ∧ ∀ G ∈ grL P V, G.length ≤ V.length := by
  have h := grV_ok P V V
  unfold grL
  refine ⟨by rw [List.length_map]; exact h.2.1, fun G hG => ?_⟩
  obtain ⟨p, hp, rfl⟩ := List.mem_map.mp hG
  exact h.2.2 p hp
theorem grL_sub {G : List Dev} (h : G ∈ grL P V) : ∀ v ∈ G, v ∈ V := fun v hv => by
  obtain ⟨p, hp, rfl⟩ := List.mem_map.mp h
  exact ((gr_mem (r := p.1) (G := p.2) hp v).mp hv).1
theorem chS_few (ok : ∀ v ∈ V, DevOk (n : Int) v) {due : List Nat} (hd : ∀ k ∈ due, k < (grL P V).length) (nd : due.Nodup) : (chS V P z due).length ≤ n := by
  have h := nodup_le (U := (List.range n).map fun (t : Nat) => (t : Int)) (chS_nd (z := z) hd nd) fun m hm => by
    obtain ⟨p, hp, rfl⟩ := List.mem_map.mp hm
    obtain ⟨k, hk, G, hG, h, _⟩ := (chS_in hd).mp hp
    obtain ⟨h0, h1⟩ := (kn_grp.mpr ⟨G, List.mem_of_getElem? hG, h⟩ : KnC P V z p.1 p.2).rng ok
    exact List.mem_map.mpr ⟨p.1.toNat, List.mem_range.mpr (by omega), by omega⟩
  rwa [List.length_map, List.length_map, List.length_range] at h
theorem wat_len {Gs : List (List Dev)} (m : Int) : (nbL (watL Gs) m).length ≤ Gs.length := by
  -- ascending, one for each group
  unfold watL
  rw [adds_nb, List.length_map]
  have key : ∀ (l : List Nat), (List.filter (fun p : Int × Int => decide (p.1 = m)) (l.flatMap fun (k : Nat) => (gatS (Gs.getD k [])).map fun g => (g, (k : Int)))).length ≤ l.length := by
    intro l
    induction l with
    | nil => exact Nat.le_refl _
    | cons k l ih =>
      rw [List.flatMap_cons, List.filter_append, List.length_append, List.length_cons]
      have h1 : (List.filter (fun p : Int × Int => decide (p.1 = m)) ((gatS (Gs.getD k [])).map fun g => (g, (k : Int)))).length ≤ 1 := by
        rw [List.filter_map, List.length_map]
        have nd : (gatS (Gs.getD k [])).Nodup := asc_nd (asc_srtU _)
        have h := nodup_le (U := [m]) (nd.filter ((fun p : Int × Int => decide (p.1 = m)) ∘ fun g => (g, (k : Int)))) fun x hx => by
          have := (List.mem_filter.mp hx).2
          simp only [Function.comp, decide_eq_true_eq] at this
          simp [this]
        exact h
      omega
  have := key (List.range Gs.length)
  rwa [List.length_range] at this
theorem wtD_len {C : Fx} : (wtD V P C).length ≤ C.length * V.length := by
  unfold wtD
  have key : ∀ l : List Int, (l.flatMap fun m => nbL (watL (grL P V)) m).length ≤ l.length * V.length := by
    intro l
    induction l with
    | nil => simp
    | cons m l ih =>
      rw [List.flatMap_cons, List.length_append, List.length_cons, Nat.add_mul, Nat.one_mul]
      have h1 := wat_len (Gs := grL P V) m
      have h2 := (grL_len P V).1
      omega
  have := key (C.map (·.1))
  rwa [List.length_map] at this
theorem chS_nil {due : List Nat} (h : chS V P z due = []) : due2 V P (chS V P z due) = [] := by rw [h]; rfl
/-- the measure of the rounds -/
def muS (n : Nat) (z : Str) (due : List Nat) : Nat := 2 * (n - cntKn n z) + (if due = [] then 0 else 1)
theorem muS_lt (ok : ∀ v ∈ V, DevOk (n : Int) v) (hP : FxS P) {due : List Nat} (hd : ∀ k ∈ due, k < (grL P V).length) (nd : due.Nodup) (hz : z.cps.toList.length = n) (hne : due ≠ []) :
    muS n (upZ n z (chS V P z due)) (due2 V P (chS V P z due)) < muS n z due := by
  have s := ss_step hP ok hd nd hz
  unfold muS
  rw [if_neg hne]
  have h1 := cntKn_le n (upZ n z (chS V P z due))
  have h2 := cntKn_le n z
  by_cases e : chS V P z due = []
  · rw [if_pos (chS_nil e)]
    have := (sv_up s.le).1
    omega
  · have hlt : cntKn n z < cntKn n (upZ n z (chS V P z due)) := by
      obtain ⟨p, C, hC⟩ := List.exists_cons_of_ne_nil e
      have hp : p ∈ chS V P z due := by rw [hC]; exact List.mem_cons_self
      obtain ⟨k, hk, G, hG, hkn, hx⟩ := (chS_in hd).mp hp
      obtain ⟨h0, h1⟩ := (kn_grp.mpr ⟨G, List.mem_of_getElem? hG, hkn⟩ : KnC P V z p.1 p.2).rng ok
      refine (sv_up s.le).2 ⟨p.1, h0, h1, hx, ?_⟩
      rw [s.new k hk G hG _ _ hkn hx]
      exact hkn.ne_x
    split <;> omega
end
end DL
namespace DL
open PySem PySem.Spec PyProof.Rows L2
/-- ValueError.__init__ bound to e, called -/
theorem mw_call {prog : Program} {w : World} {A : Around} {E : Value → Shared → Prop} {h : Heap} {g : Array GenState} {d : Drawn} {t : Nat} {os : OsState} {nm q : Str} {C N u e t0 : Addr} {bs bm : List Value} {sn : List Str} {sub : List Value} {ab : Bool} {col : Option Bool} {dd : Option Addr} {k0 k1 k2 k3 k5 : Option Value} {rest : List Value} {Q : Value → Shared → Prop}
    (hC : h.get? C = some (excClassObj nm q C N bs bm true sn sub ab col dd k0 k1 k2 k3 k5 "ValueError.__new__")) (he : h.get? e = some (HandSPX.excO C t0)) (hu : h.get? u = some (PySem.W.kxs_mw "ValueError.__init__" e)) (hr : rest.length ≤ sizeLine)
    (hq : ∀ h' t1, (∀ b o, b ≠ e → h.get? b = some o → h'.get? b = some o) → h'.get? e = some (HandSPX.excO C t1) → Q .none ⟨h', g, d, t, os⟩) : wpAny (model prog w) A (call (.ref u) rest) Q E ⟨h, g, d, t, os⟩ := by
  have FB := F.excBase_ValueError
  refine wpAny_call (codeAny_of_tree (show wpAny (model prog w) A.in1 (callAny (.ref u) ⟨rest, []⟩) _ _ _ from ?_))
  unfold callAny
  refine wpAny_bind (wpAny_load hu ?_)
  have e1 : (Value.type "method-wrapper" == Value.type "method" || Value.type "method-wrapper" == Value.type "builtin_function_or_method" || Value.type "method-wrapper" == Value.type "method-wrapper") = true := by decide
  simp only [PySem.W.kxs_mw, e1, if_true]
  refine PySem.W.KFB.if_so (by decide) (wpAny_bind (PySem.W.check_bound_init FB.toExcCallFacts hC he rfl (wpAny_bind (wpAny_pure (wpAny_pure ⟨plainId_quiet FB.init.plain _, codeAny_builtin FB.initEntry ?_⟩)))))
  refine PySem.W.exc_init_tree (cls := .ref C) (t0 := t0) (dv := none) (c2 := .none) (c3 := .none) (b4 := .bool false) he hr fun h' k1 k2 _ => ?_
  exact hq h' _ k1 k2
end DL
namespace DL
open PySem PySem.Spec PyProof.Rows L2 NdefX
/-- what the written part says of an __init__ that says super() -/
structure SupK (P : Program) (K : PySem.W.Frag) (mg : Str → Option Value) (C fI cc c : Addr) (F : NF) : Prop where
  fc : F.cl = [(("__class__" : Str), cc)] ∧ F.c = c
  fn : ∃ oc od osl dV kV doc pm an ct, K.lookup fI = some ⟨oc, od, .func (PySem.W.fnX F.name F.qual F.params F.body F.scope F.cl dV kV doc pm an (.ref F.c) ct), osl⟩
  cd : PySem.W.codeIn K (.ref F.c) F.qual = true
  cell : ∃ cl cld csl, K.lookup cc = some ⟨cl, cld, .cell (some (.ref C)), csl⟩
  file : ∃ ccl cdd ccs vs fl tf, K.lookup F.c = some ⟨ccl, cdd, .fields vs, ccs⟩ ∧ vs[2]? = some (.str fl tf) ∧ ((P.main.file : Str) == fl) = true
  top : (P.main.scope.names.lookup ("super" : Str)).isSome = false
  arg : ∃ ar : Arg, (F.params.posonlyargs ++ F.params.args).head? = some ar ∧ ar.arg = ("self" : Str)
  sup : mg "super" = none
  mro : PySem.W.mroIn K C (.ref C) = some true
  opq : PySem.W.nsIn K cStatics "thirdparty.any" = some none
  ini : PySem.W.ks_superIn K C C "__init__" = some (some (.builtin "ValueError.__init__"))
  ve : PySem.W.subIn K (.ref C) (.type "ValueError") = some true
section
variable {CX : CXT} {P : Program} {w : World} {K : PySem.W.Frag} {mg : Str → Option Value} {base : Heap} {N : List Str} {F : NF} {fI C cc c a : Addr} {A : Around} {outer : List Env} {s : Shared} {H0 : Hp} {E : XK} {pins : List (Addr × Obj)} {σ : L2.St} {H : Hp} {t : TA} {R : Hp → Prop}
theorem sup_stmt {s0 : Shared} {body : List Stmt} {e : Expr} {p0 p1 ap pos pos2 : Pos} {pl : Sem Bool} (S : SupK P K mg C fI cc c F) (T : OexC K C) (I : Inv (ncx CX P w K mg base N F fI A outer s H0 E) pins σ H s0) (h0 : σ[0]? = some (some (.ref a))) (hN : N[0]? = some ("self" : Str))
    (ea : H a = some (exo a C none)) (ha : PA (ncx CX P w K mg base N F fI A outer s H0 E) [e] t) (hq : t σ H fun vs H1 => vs.length ≤ 1000 ∧ H1 a = some (exo a C none) ∧ R H1)
    (hks : F.scope.names.lookup ("super" : Str) = some .globalImplicit) (hkc : F.scope.names.lookup ("__class__" : Str) = some .free) (hka : F.scope.names.lookup ("self" : Str) = some .local) (hk : F.scope.kind = .function)
    (hi : interactive (envF F fI s.heap.objs.size) = false) (hs : swapsWith (.Call (.Attribute (.Call (.Name "super" p0) [] [] p1) "__init__" ap) [e] [] pos) none pos2.line (envF F fI s.heap.objs.size) = pure false)
    (he : eval (.Call (.Attribute (.Call (.Name "super" p0) [] [] p1) "__init__" ap) [e] [] pos) (envF F fI s.heap.objs.size) = (do
      let ov ← attributeBase (.Call (.Name "super" p0) [] [] p1) "__init__" (envF F fI s.heap.objs.size) (eval (.Call (.Name "super" p0) [] [] p1) (envF F fI s.heap.objs.size))
      standAt ap.atName
      let (f, first) ← holding [ov] (getMethod ov "__init__" pl)
      callWith pos f first (backTo pos (starEach [e] (envF F fI s.heap.objs.size))) []))
    (hst : starEach [e] (envF F fI s.heap.objs.size) = (false, eval e (envF F fI s.heap.objs.size)) :: starEach [] (envF F fI s.heap.objs.size)) :
    _root_.PySem.wpAt (model P w) (A.deeper (envF F fI s.heap.objs.size)) (.func body (envF F fI s.heap.objs.size)) (exec (.Expr (.Call (.Attribute (.Call (.Name "super" p0) [] [] p1) "__init__" ap) [e] [] pos) pos2) (envF F fI s.heap.objs.size))
      (fun fl s' => fl = .next ∧ ∃ H', Inv (ncx CX P w K mg base N F fI A outer s H0 E) pins σ H' s' ∧ R H') (ncx CX P w K mg base N F fI A outer s H0 E).xe s0 := by
  obtain ⟨oc, od, osl, dV, kV, doc, pm, an, ct, hfn⟩ := S.fn
  obtain ⟨cl, cld, csl, hcell⟩ := S.cell
  obtain ⟨ccl, cdd, ccs, vs0, fl0, tf, hcode, hvs, hfile⟩ := S.file
  obtain ⟨ar, har, har2⟩ := S.arg
  have KX : K.In s0.heap := I.kIn
  obtain ⟨nm, q, Nn, bs, bm, sn, sub, ab, col, dd, k0, k1, k2, k3, k5, hC, hbm⟩ := T.cls
  obtain ⟨mb, hmb1, hmb2⟩ := I.mod.blt
  obtain ⟨m, hns, hl⟩ := I.loc
  obtain ⟨u, ru, lu⟩ := hl 0 "self" (.ref a) hN h0 (.inl hka)
  cases (show u = Value.ref a from ru)
  have hm : m "self" = some (.ref a) := by
    rcases lu with ⟨_, lu⟩ | ⟨hz, _⟩
    · exact lu
    · have hz : F.scope.names.lookup ("self" : Str) = some .cell ∨ F.scope.names.lookup ("self" : Str) = some .free := hz
      rw [hka] at hz
      rcases hz with hz | hz <;> cases hz
  obtain ⟨t1, hx⟩ := exo_at I.hok ea
  refine ks_wpAt_Expr_any ?_ hi hs
  refine ks_wpAt_MethodCall (pl := pl) ?_ he
  refine ks_wpAt_super_base (env := envF F fI s.heap.objs.size) hks hkc (by decide +kernel) rfl (KX _ _ hfn) rfl har rfl (KX _ _ hcode) rfl hvs hfile S.top ?_
  refine PySem.W.ks_loadName_global hk hks (Calls.loadGlobal_builtin (env := envF F fI s.heap.objs.size) (mg := mg) (mb := mb) (by rw [show (envF F fI s.heap.objs.size).globals = mainGlobals from rfl]; exact I.mod.glob.keeps I.bk) S.sup (hmb1.keeps I.bk) ((hmb2 "super" (by decide)).trans (by decide +kernel)) ⟨rfl, ?_⟩)
  refine wpAny_loadName_free hk hkc (c := cc) (v := .ref C) (by rw [show (envF F fI s.heap.objs.size).cells = F.cl from rfl, S.fc.1]; rfl) ⟨_, KX _ _ hcell, rfl⟩ ?_
  rw [har2]
  refine wpAny_loadName_local hk hka hns hm ?_
  obtain ⟨hh, g, d, tk, os⟩ := s0
  have hD1 : hh.get? C = some _ := KX _ _ hC
  refine ks_wpAny_isType_cls hD1 rfl ⟨rfl, ?_⟩
  refine ks_wpAny_call_super hD1 rfl hx rfl (fun _ z => nomatch z) (PySem.W.looks_mroIn KX S.mro) fun h1 e1 kp1 => ?_
  have I1 := I.kept (t' := tk) kp1
  have KX1 : K.In h1 := KX.keeps kp1
  have hx1 := kp1 _ _ hx
  have hcl : PySem.W.clsIn K C = some { name := nm, bases := bs, mro := .ref C :: bm, ns := Nn, qualname := q, hasDict := true, slotNames := sn, subclasses := sub, abstract := ab, collection := col, hasDel := false } := by
    unfold PySem.W.clsIn; rw [hC] <;> rfl
  have ia : PySem.W.InstAt h1 a (HandSPX.excO C t1) C none := ⟨hx1, rfl, rfl, trivial⟩
  have hin := S.ini
  unfold PySem.W.ks_superIn at hin
  rw [hcl] at hin
  refine PySem.W.kxs_getMethod PySem.W.kxs_ValueError e1 (PySem.W.looks_opaque KX1 S.opq) (l₀ := .ref C :: bm) ?_ rfl KX1 hin (ia.type.andThen (PySem.W.looks_subIn KX1 S.ve)) (PySem.W.ks_ne KX1 ia hcl) (by decide +kernel) ?_
  · exact fun A2 Q2 E2 s2 k2 q2 => wpAny_bind ((PySem.W.looks_clsIn KX1 hcl) A2 _ E2 s2 k2 (wpAny_pure q2))
  have I2 : Inv (ncx CX P w K mg base N F fI A outer s H0 E) ((h1.objs.size, PySem.W.kxs_mw "ValueError.__init__" a) :: pins) σ H ⟨h1.push (PySem.W.kxs_mw "ValueError.__init__" a), g, d, tk + 1, os⟩ :=
    ClX.pin_new (t' := tk + 1) I1 (fun b o z => Heap.get?_push_of_some _ z) (Nat.le_refl _) (Heap.get?_push_at rfl rfl) (fun _ z => nomatch z)
  have hrun := ha.run pos _ _ σ H _ I2 hq
  change wpAny (model P w) (A.deeper (envF F fI s.heap.objs.size)) (spliced (backTo pos (starEach [e] (envF F fI s.heap.objs.size)))) _ _ _ at hrun
  rw [hst] at hrun ⊢
  refine PySem.W.kxs_callWith (i := "ValueError.__init__") (x := a) rfl (Calls.evalArgs_plain (wpAny_mono hrun (fun us s3 hz => ?_) fun _ _ z => z))
  obtain ⟨vs, H1, I3, rv, hlen, ea1, q3⟩ := hz
  refine ⟨ClX.pin_at I3, ?_⟩
  obtain ⟨t2, hx3⟩ := exo_at I3.hok ea1
  have hu3 := ClX.pin_at I3
  have I4 := ClX.unpin I3
  obtain ⟨h3, g3, d3, tk3, os3⟩ := s3
  refine mw_call (I4.kIn _ _ hC) hx3 hu3 (by show us.length ≤ sizeLine; rw [← rv.length, sizeLine_eq]; omega) fun h4 t4 kp4 hx4 => ⟨rfl, H1, ?_, q3⟩
  have J := I4.write (t' := tk3) (x := a) (e := a) (o := exo a C none) (by rw [ea1]; exact True.intro) (.inl rfl) kp4 ⟨_, hx4⟩ (exo_ok hx4)
  have eu : upd H1 a (exo a C none) = H1 := by
    funext b
    by_cases hb : b = a
    · rw [hb, upd_same, ea1]
    · rw [upd_ne hb]
  rw [eu] at J
  exact J
end
end DL
namespace DL
open PySem PySem.Spec PyProof.Rows L2 NdefX
/-- what an __init__ of errors is told: the object at a, its arguments; what its fields hold (the last one first) -/
def spE (K : PySem.W.Frag) (C : Addr) (ns : List Str) (R : List D → List D → Prop) : Sp := fun vs H Q _ => ∃ H0 a ds es ws, vs = .ref a :: ws ∧ Same H0 H ∧ H a = some (exo a C none) ∧ H0 a = none ∧ DRs K H0 ds ws ∧ R ds es ∧
  ∀ dx us H0' H', JH H0 (er H a) H0' H' → H0' a = none → H' a = some (exo a C (some dx)) → H' dx = some (exd dx (ns.zip us)) → H dx = none → H0' dx = none → ns.length = us.length → DRs K H0' es us → Q .non H'
section
variable {P : Program} {w : World} {K : PySem.W.Frag} {mg : Str → Option Value} {base : Heap} {N ps : List Str} {F : NF} {fI C cc c : Addr} {k : Nat} {R : List D → List D → Prop} {f1 : Str}
theorem startF_start {N : List Str} {vs : List V} (h : vs.length + 1 ≤ N.length) : startF N vs [none] = L2.start N vs := by
  unfold startF L2.start
  have e : N.length - vs.length = (N.length - vs.length - 1) + 1 := by omega
  rw [e, List.replicate_succ]
  simp
/-- def __init__(self, ..): super().__init__(e); self.f1 = e1 -/
theorem fn_okE1 {e e1 : Expr} {p0 p1 ap pos pos2 p3 p4 p5 : Pos} {pl : Sem Bool} (S : SupK P K mg C fI cc c F) (T : OexC K C) (NS : NScope N ps ["__class__"] F.scope) (hN : N[0]? = some ("self" : Str)) (hNc : N[0]? ≠ none)
    (hR : ∀ ds es, R ds es → ds.length + 1 = ps.length) (hb : F.body = [.Expr (.Call (.Attribute (.Call (.Name "super" p0) [] [] p1) "__init__" ap) [e] [] pos) pos2, .Assign [.Attribute (.Name "self" p3) f1 p4] e1 p5])
    (hf1 : PySem.W.findIn K (.ref C) f1 = some none)
    (hks : F.scope.names.lookup ("super" : Str) = some .globalImplicit) (hkc : F.scope.names.lookup ("__class__" : Str) = some .free) (hka : F.scope.names.lookup ("self" : Str) = some .local)
    (hi : ∀ L, interactive (envF F fI L) = false) (hs : ∀ L, swapsWith (.Call (.Attribute (.Call (.Name "super" p0) [] [] p1) "__init__" ap) [e] [] pos) none pos2.line (envF F fI L) = pure false)
    (he : ∀ L, eval (.Call (.Attribute (.Call (.Name "super" p0) [] [] p1) "__init__" ap) [e] [] pos) (envF F fI L) = (do
      let ov ← attributeBase (.Call (.Name "super" p0) [] [] p1) "__init__" (envF F fI L) (eval (.Call (.Name "super" p0) [] [] p1) (envF F fI L))
      standAt ap.atName
      let (f, first) ← holding [ov] (getMethod ov "__init__" pl)
      callWith pos f first (backTo pos (starEach [e] (envF F fI L))) []))
    (hst : ∀ L, starEach [e] (envF F fI L) = (false, eval e (envF F fI L)) :: starEach [] (envF F fI L)) (hs2 : ∀ L, swapsWith e1 (some (.Attribute (.Name "self" p3) f1 p4)) p5.line (envF F fI L) = pure false)
    (body : ∀ (a : Addr) ds es, R ds es → ∀ (A : Around) (outer : List Env) (s : Shared) (H : Hp) (E : XK), Room k (A.deeper (envF F fI s.heap.objs.size)) →
      ∃ z d1, ED (ncx CX0 P w K mg base N F fI A outer s H E) (en N (.ad a :: ds)) e (.str z) ∧ ED (ncx CX0 P w K mg base N F fI A outer s H E) (en N (.ad a :: ds)) e1 d1 ∧ ED (ncx CX0 P w K mg base N F fI A outer s H E) (en N (.ad a :: ds)) (.Name "self" p3) (.ad a) ∧ es = [d1]) {dV kV doc pm ct : Value} {ann : Option Addr} {oc : Value} {od : Option Addr} {osl : Array (Option Value)}
    (lk : K.lookup fI = some ⟨oc, od, .func (PySem.W.fnX F.name F.qual F.params F.body F.scope F.cl dV kV doc pm ann (.ref F.c) ct), osl⟩) :
    FnOk P w K mg base CX0 (k + 1) fI (PySem.W.fnX F.name F.qual F.params F.body F.scope F.cl dV kV doc pm ann (.ref F.c) ct) ps (spE K C [f1] R) := by
  refine ⟨fun vs H Q E hs => ?_, fun A outer s H args us vs Q E hr e0 hbd r hsp => ?_⟩
  · obtain ⟨H0, a, ds, es, ws, rfl, _, _, _, r, q, _⟩ := hs
    rw [List.length_cons, ← DRs.length r]; exact hR ds es q
  obtain ⟨H0, a, ds, es, ws, rfl, s0, ha, h0, r0, q, kk⟩ := hsp
  have hl : ds.length + 1 = ps.length := hR ds es q
  have hlw := DRs.length r0
  have KX : K.In s.heap := e0.mod.kin.keeps fun b o z => (e0.bs b o z).1
  have lim : s.heap.NoLimit := e0.mod.nolimit.keeps fun b o z => (e0.bs b o z).1
  have pre := congrArg List.length NS.pre
  rw [List.length_take, List.length_append] at pre
  simp only [List.length_cons, List.length_nil] at pre
  obtain ⟨cl, cld, csl, hcell⟩ := S.cell
  have cellH : s.heap.IsCell cc (some (.ref C)) := ⟨_, KX _ _ hcell, rfl⟩
  have ccN : H cc = none := by
    have := e0.mod.kin _ _ hcell
    exact (e0.bs _ _ this).2
  have CA : CellsAt F.cl ["__class__"] [none] s.heap H := by
    refine ⟨rfl, fun y c' hc' => ?_, fun x y c' h1 h2 => ?_, fun i y hy => ?_⟩
    · rw [S.fc.1] at hc'
      have : c' = cc := by
        simp only [List.lookup] at hc'
        split at hc'
        · exact (Option.some.inj hc').symm
        · cases hc'
      subst this
      exact ⟨ccN, _, cellH⟩
    · rw [S.fc.1] at h1 h2
      simp only [List.lookup] at h1 h2
      have ex : ∀ z : Str, (z == ("__class__" : Str)) = true → z = ("__class__" : Str) := fun z h => by simpa using h
      split at h1
      · rename_i g1
        split at h2
        · rename_i g2
          rw [ex _ g1, ex _ g2]
        · cases h2
      · cases h1
    · cases i with
      | zero =>
        have : y = ("__class__" : Str) := by simpa using hy.symm
        subst this
        exact ⟨cc, by rw [S.fc.1]; simp [List.lookup], fun v hv => by simp at hv⟩
      | succ i => simp at hy
  refine codeAny_call_function hr.depth (KX _ _ lk) rfl NS.co NS.gen rfl (PySem.W.codeRec_of KX S.cd) (hbd _ _ _ _ ?_)
  refine wpAny_newFunctionEnv NS.nocell (fun ⟨n, _⟩ hy => NS.par n (List.of_mem_zip hy).1) (fun h₁ hns hsb => ⟨lim.fresh _ hsb, ?_⟩) NS.kind
  show codeAny _ _ (.func F.body (envF F fI s.heap.objs.size)) _ _
  refine ks_codeAny_funcAt ?_
  have kp : ∀ b o, s.heap.get? b = some o → h₁.get? b = some o := fun b o z => hsb.extBut b o (Nat.ne_of_lt (Heap.lt_size z)) (Heap.get?_push_of_some _ z)
  have hN1 : (V.ref a :: ws).length + 1 ≤ N.length := by rw [List.length_cons]; omega
  have I : Inv (ncx CX0 P w K mg base N F fI A outer s H E) [] (startF N (.ref a :: ws) [none]) H { s with heap := h₁, toks := s.toks + (ps.zip us).length } := inv_startN NS hr.hd e0 (by rw [List.length_cons, ← hlw]; exact hl) r CA hns kp
  rw [startF_start hN1] at I
  have j0 : J K H0 H (L2.start N (.ref a :: ws)) H0 H (en N (.ad a :: ds)) := j_start s0 (ds := .ad a :: ds) ⟨.ref a, ws, rfl, rfl, r0⟩ (by rw [List.length_cons]; omega)
  obtain ⟨z, d1, b1, b2, b3, rfl⟩ := body a ds es q A outer s H E (hr.deeper _)
  have h00 : (L2.start N (.ref a :: ws))[0]? = some (some (V.ref a)) := by unfold L2.start; simp
  rw [hb]
  refine ks_wpAt_execs_cons (PySem.ks_wpAt_mono (sup_stmt (pl := pl) (R := fun H1 => ∃ G0, JH H0 H G0 H1) S T I h00 hN ha (pa_star (X := ncx CX0 P w K mg base N F fI A outer s H E) (es := [e])) ?_ hks hkc hka NS.kind (hi _) (hs _) (he _) (hst _)) (fun fl s' hz => ?_) fun _ _ z => z)
  · exact ad_cons (X := ncx CX0 P w K mg base N F fI A outer s H E) b1 ad_nil (hst _) H0 H _ H0 H _ j0 fun vs G0 G g rv => ⟨by have := DRs.length rv; simp only [List.length_cons, List.length_nil] at this; omega, g.sB _ _ ha, G0, g⟩
  obtain ⟨rfl, H1, I1, G0, g⟩ := hz
  refine _root_.PySem.wpAt_of_wpAny ?_
  have RP := (pss_cons (ps_ost (X := ncx CX0 P w K mg base N F fI A outer s H E) (f := f1) (p' := p4) (pos := p5) (pe_star (e := .Name "self" p3)) (pe_star (e := e1)) (hs2 _)) pss_nil).run [] s' (L2.start N (.ref a :: ws)) H1 { nx := fun _ H' => Q .non H', rt := Q } I1
    (b2 H0 H _ G0 H1 _ (j0.grow g) fun y L0 L g2 ry => b3 H0 H _ L0 L _ ((j0.grow g).grow g2) fun x M0 M g3 rx => ?_)
  · refine wpAny_mono RP (fun fl s2 hz => ?_) fun _ _ z => z
    have fin : ∀ {σ' : L2.St} {H' : Hp} {v : V} {u : Value}, Inv (ncx CX0 P w K mg base N F fI A outer s H E) [] σ' H' s2 → L2.RelV v u → Q v H' → CE outer P w H s Q u s2 :=
      fun {σ' H' v u} J rv q => ⟨v, H', J.os, J.bare, J.base, J.hok, rv, q⟩
    cases fl with
    | ret u => obtain ⟨v, σ', H', J, rv, q⟩ := hz; exact fin J rv q
    | next => obtain ⟨σ', H', J, q⟩ := hz; exact fin (v := V.non) (u := Value.none) J rfl q
    | brk => obtain ⟨_, _, _, q⟩ := hz; exact q.elim
    | cont => obtain ⟨_, _, _, q⟩ := hz; exact q.elim
  · cases (show x = .ref a from rx)
    have gM : JH H0 H M0 M := (g.trans g2).trans g3
    have M0a : M0 a = none := gM.fr _ _ ha trivial h0
    have Ma : M a = some (exo a C none) := gM.sB _ _ ha
    refine ⟨a, C, rfl, T, hf1, .inl ⟨Ma, fun dx n1 n2 => ?_⟩⟩
    have M0d : M0 dx = none := gM.sh.free n1
    refine kk dx [y] M0 _ ⟨gM.s0, fun b u z => ?_, fun b u z => ?_, fun b u z nt z' => ?_⟩ M0a upd_same (by rw [upd_ne n2]; exact upd_same) (gM.sB.free n1) M0d rfl ⟨y, [], rfl, DR.mono g3.s0 _ _ ry, rfl⟩
    · have hb1 : b ≠ a := fun e => by subst e; rw [M0a] at z; cases z
      have hb2 : b ≠ dx := fun e => by subst e; rw [M0d] at z; cases z
      rw [upd_ne hb1, upd_ne hb2]; exact gM.sh _ _ z
    · have hb1 : b ≠ a := fun e => by subst e; rw [er_same] at z; cases z
      rw [er_ne hb1] at z
      have zM := gM.sB _ _ z
      have hb2 : b ≠ dx := fun e => by subst e; rw [n1] at zM; cases zM
      rw [upd_ne hb1, upd_ne hb2]; exact zM
    · have hb1 : b ≠ a := fun e => by subst e; rw [er_same] at z; cases z
      rw [er_ne hb1] at z
      exact gM.fr _ _ z nt z'
end
end DL
namespace DL
open PySem PySem.Spec PyProof.Rows L2
section
variable {X : Cx} {C fI : Addr} {x : Str} {e : Expr} {es : List Expr} {t : TA} {p pos : Pos}
/-- an own class whose __init__ keeps fields, called: what is made has no context -/
theorem made_own {CX : CXT} {k : Nat} {fd : FuncData} {ps : List Str} {sp : Sp} {pins : List (Addr × Obj)} {σ : L2.St} {H : Hp} {s : Shared} {us : List Value} {vs : List V} {Q : XK} (T : OexC X.K C) (iC : PySem.W.findIn X.K (.ref C) "__init__" = some (some (.ref fI))) (tI : PySem.W.typeIn X.K (.ref fI) = some (.type "function"))
    (F : FnOk X.prog X.w X.K X.mg X.base CX k fI fd ps sp) (hr : Room (k + 1) X.A) (hb : Binds X.K fd ps []) (hx : Passes CX X (fun _ _ _ => False)) (I : Inv X pins σ H s) (rv : Vals vs us) (hz : vs.length ≤ 1000)
    (hq : ∀ a, H a = none → sp (.ref a :: vs) (upd H a (exo a C none)) (fun v H2 => v = .non ∧ ∃ d fs, H2 a = some (exo a C (some d)) ∧ H2 d = some (exd d fs) ∧ H d = none ∧ Q (.ref C) (some d) (upd (L2.del H2 a) d (.xd fs))) (fun _ _ _ => False)) :
    wpAny (model X.prog X.w) X.A (call (.ref C) us) (L2N.MkP X pins σ Q) X.xe s := by
  obtain ⟨hp, g, dr, tk, os⟩ := s
  obtain ⟨_, _, _, _, bm, _, _, _, _, _, _, _, _, _, _, hC, hbm⟩ := T.cls
  let G : Heap := (hp.push (PySem.W.kdv_tup us)).push (PySem.HandSPX.excO C hp.objs.size)
  have grow : ∀ b u, hp.get? b = some u → G.get? b = some u := fun b u z => Heap.get?_push_of_some _ (Heap.get?_push_of_some _ z)
  have ge : G.get? (hp.objs.size + 1) = some (PySem.HandSPX.excO C hp.objs.size) := by show Heap.get? ((hp.push _).push _) _ = _; heap_get
  have J : Inv X pins σ (upd H (hp.objs.size + 1) (exo (hp.objs.size + 1) C none)) ⟨G, g, dr, tk, os⟩ := I.laid (t' := tk) grow (Nat.le_succ _) (exo_ok ge)
  have h0 := hq (hp.objs.size + 1) (I.hok.fresh (Nat.le_succ _))
  have rs : Vals (V.ref (hp.objs.size + 1) :: vs) (Value.ref (hp.objs.size + 1) :: us) := .cons rfl rv
  have bs := hb ⟨G, g, dr, tk, os⟩ (Value.ref (hp.objs.size + 1) :: us) J.kIn (by rw [List.append_nil, ← rs.length]; exact F.len _ _ _ _ h0)
  rw [List.append_nil] at bs
  have small : us.length ≤ sizeLine := by rw [← rv.length, sizeLine_eq]; omega
  have run := F.run _ X.stack ⟨G, g, dr, tk, os⟩ _ ⟨Value.ref (hp.objs.size + 1) :: us, []⟩ _ _ _ _ (hr.make C us []) (J.env0.make C us []) bs rs h0
  refine wpAny_call (PySem.HandSPX.call_own PySem.F.excBase_ValueError (fun Y => PySem.HandSPX.refsVE_contains Y bm hbm) (I.kIn _ _ hC) (PySem.W.looks_findIn I.kIn iC) (fun self => PySem.W.bind_fn I.kIn self tI) small (codeAny_mono run fun r s2 back => ?_))
  match r, back with
  | .error _, back => exact hx pins σ _ _ _ s2 J back
  | .ok (.ret u), ⟨v, H2, os2, bare2, un2, hok2, ru, hv, d, fs, ea, ed, hd, q2⟩ =>
    cases hv
    obtain ⟨G2, g2, d2, t2, os'⟩ := s2
    obtain ⟨t0, G3, J3, k3, n3, e3, f3⟩ := mk_end0 (d2 := d2) (t2 := t2) I (Nat.le_succ _) grow un2 hok2 os2 bare2 ea ed hd
    have ctx : L2N.Zn (.ref C) (some d) ({ cls := .ref C, dict := some d, data := .fields #[.ref t0, .none, .none, .none, .bool false, .none] } : Obj) := ⟨rfl, rfl, fun _ z => by cases z; rfl⟩
    exact ⟨ru, hp.objs.size + 1, _, _, ⟨G3, g2, d2, t2, os'⟩, _, _, some d, rfl, J3, k3, n3, e3, ctx, rfl, rfl, f3, rfl, bare2, raises_own T.exC T.tyC, q2⟩
  | .ok .next, back => exact back.elim
  | .ok .brk, back => exact back.elim
  | .ok .cont, back => exact back.elim
theorem pmk_oexN {CX : CXT} {k : Nat} {fd : FuncData} {ps : List Str} {sp : Sp} (T : OexC X.K C) (iC : PySem.W.findIn X.K (.ref C) "__init__" = some (some (.ref fI))) (tI : PySem.W.typeIn X.K (.ref fI) = some (.type "function"))
    (F : FnOk X.prog X.w X.K X.mg X.base CX k fI fd ps sp) (hr : Room (k + 1) X.A) (hb : Binds X.K fd ps []) (hx : Passes CX X (fun _ _ _ => False)) (hg : Gl X x) (hm : X.mg x = some (.ref C)) (ha : PA X (e :: es) t) (hdb : (x == ("__debug__" : Str)) = false := by decide)
    (he : starEach (e :: es) X.env = (false, eval e X.env) :: starEach es X.env := by rfl) (hpl : (backTo pos (starEach es X.env)).any (·.1) = false := by rfl) : L2N.PMk X (.Call (.Name x p) (e :: es) [] pos) (tMkO C sp [] t) := fun pins s σ H Q I h =>
  wpAny_Call_Name_kw (ld_glob I hg hm (PySem.W.callWith_K (h₀ := X.base) I.ok.mod.kin T.kC (thn (ha.run pos pins s σ H _ I h) fun us s1 ⟨vs, H1, I1, rv, hz, q1⟩ => ⟨I1.kIn, made_own T iC tI F hr hb hx I1 rv hz (fun a na => by have z := q1 a na; rw [List.append_nil] at z; exact z)⟩) he hpl) hdb)
end
section
variable {P : Program} {w : World} {K : PySem.W.Frag} {mg : Str → Option Value} {base : Heap}
theorem _root_.L2.Fun.okXN {x qual : Str} {st : Stmt} {f : Addr} {fd : FuncData} {N ps : List Str} {k : Nat} {sp : Sp} (F : Fun K x qual st f fd) (S : FnScope N ps (defScope st)) (len : ∀ vs H Q E, sp vs H Q E → vs.length = ps.length)
    (hbody : ∀ (cdv : Value) (A : Around) (outer : List Env) (s : Shared) (H : Hp) (vs : List V) (Q : VK) (E : XK), Room k (A.deeper (envOfC qual (defScope st) s.heap.objs.size f cdv)) → sp vs H Q E →
      ∃ t, PSs (cxOf (L2N.CX P w) P w K mg base N qual (defScope st) f cdv A outer s H E) (defBody st) t ∧ t { nx := fun _ H' => Q .non H', rt := Q } (L2.start N vs) H) : FnOk P w K mg base (L2N.CX P w) (k + 1) f fd ps sp := by
  obtain ⟨_, _, _, _, _, _, _, _, _, rfl, lk, hcd⟩ := F.ex
  exact fn_of lk hcd S len fun A outer s H vs Q E hr hs => hbody _ A outer s H vs Q E hr hs
end
/-- the context of a def's body, an error of it told with its context -/
abbrev bxN (P : Program) (w : World) (K : PySem.W.Frag) (mg : Str → Option Value) (base : Heap) (N : List Str) (qual : Str) (st : Stmt) (f : Addr) (cdv : Value) (A : Around) (outer : List Env) (s : Shared) (H : Hp) (E : XK) : Cx :=
  cxOf (L2N.CX P w) P w K mg base N qual (defScope st) f cdv A outer s H E
abbrev Err := PySem.W.Frag → Value → Option Addr → Hp → Prop
/-- .. with fields (the last one first) -/
def errF (cn : Str) (ns : List Str) (ds : List D) : Err := fun K v d H0 => ∃ C x vs, PySem.W.nsIn K mainGlobals cn = some (some (.ref C)) ∧ v = .ref C ∧ d = some x ∧ H0 x = some (.xd (ns.zip vs)) ∧ ns.length = vs.length ∧ DRs K H0 ds vs
/-- e lets out such an error -/
def EG (X : Cx) (ρ : En) (e : Expr) (Θ : Err) : Prop := ∀ B0 B σ H0 H (Q : VK) (W : L2.WX), L2N.Takes X W → J X.K B0 B σ H0 H ρ → (∀ v d H0' H', Θ X.K v d H0' → JH H0 H H0' H' → W v d σ H') → RE X e σ H Q
def XG1 (X : Cx) (st : Stmt) (ρ : En) (Θ : Err) (ρx : En) : Prop := ∀ B0 B σ H0 H Dn (W : L2.WX), L2N.Takes X W → J X.K B0 B σ H0 H ρ → (∀ v d σ' H0' H', Θ X.K v d H0' → J X.K B0 B σ' H0' H' ρx → W v d σ' H') → RS X st Dn σ H
def XG (X : Cx) (sts : List Stmt) (ρ : En) (Θ : Err) (ρx : En) : Prop := ∀ B0 B σ H0 H Dn (W : L2.WX), L2N.Takes X W → J X.K B0 B σ H0 H ρ → (∀ v d σ' H0' H', Θ X.K v d H0' → J X.K B0 B σ' H0' H' ρx → W v d σ' H') → RSs X sts Dn σ H
def ThenG (X : Cx) (rest : List Stmt) (Θ : Err) (ρx : En) : Out → Prop
  | .nx ρ => XG X rest ρ Θ ρx
  | _ => False
/-- an own class of errors with an __init__ that keeps fields -/
structure FnEr (P : Program) (w : World) (K : PySem.W.Frag) (mg : Str → Option Value) (base : Heap) (cn : Str) (ns : List Str) (k : Nat) (R : List D → List D → Prop) : Prop where
  ex : ∃ C fI fd ps, PySem.W.nsIn K mainGlobals cn = some (some (.ref C)) ∧ mg cn = some (.ref C) ∧ OexC K C ∧ PySem.W.findIn K (.ref C) "__init__" = some (some (.ref fI)) ∧ PySem.W.typeIn K (.ref fI) = some (.type "function") ∧ FnOk P w K mg base CX0 k fI fd ps (spE K C ns R) ∧ Binds K fd ps []
section
variable {X : Cx} {ρ ρx : En} {Θ : Err} {e : Expr} {st : Stmt} {rest sa sb : List Stmt} {pos : Pos}
theorem xg_head (h : XG1 X st ρ Θ ρx) : XG X (st :: rest) ρ Θ ρx := fun B0 B σ H0 H Dn W tk j k => ⟨_, pss_cons ps_star pss_star, h B0 B σ H0 H _ W tk j k⟩
theorem xg_cons (h : WS X st ρ (ThenG X rest Θ ρx)) : XG X (st :: rest) ρ Θ ρx := fun B0 B σ H0 H Dn W tk j k => by
  refine ⟨_, pss_cons ps_star pss_star, h B0 B σ H0 H _ j fun o ho => ?_⟩
  cases o with
  | nx ρ' => exact fun σ' H0' H' j' => ho B0 B σ' H0' H' Dn W tk j' k
  | bk ρ' => exact ho.elim
  | ct ρ' => exact ho.elim
  | rt d => exact ho.elim
  | ro c => exact ho.elim
  | rc d cs => exact ho.elim
theorem xg_if {c : Expr} {k : Bool} (hc : TD X ρ c k) (h1 : k = true → XG X sa ρ Θ ρx) (h2 : k = false → XG X sb ρ Θ ρx) : XG1 X (.If c sa sb pos) ρ Θ ρx := fun B0 B σ H0 H Dn W tk j kk => by
  refine ⟨_, ps_if pt_star pss_star pss_star, hc B0 B σ H0 H _ j fun H0' H' g => ?_⟩
  cases k with
  | true => exact iteT (h1 rfl B0 B σ H0' H' Dn W tk (j.grow g) kk)
  | false => exact iteF (h2 rfl B0 B σ H0' H' Dn W tk (j.grow g) kk)
/-- if c: .. raise; what follows raises too, or is never reached -/
theorem xg_ifr {c : Expr} {k : Bool} (hc : TD X ρ c k) (h1 : k = true → XG X sa ρ Θ ρx) (h2 : k = false → XG X rest ρ Θ ρx) : XG X (.If c sa [] pos :: rest) ρ Θ ρx := by
  cases k with
  | true => exact xg_head (xg_if hc (fun _ => h1 rfl) fun h => by cases h)
  | false => exact xg_cons (ws_if hc (fun h => by cases h) fun _ => ws_nil (h2 rfl))
theorem xg_share (i : Nat) {c : OC} (hi : ρ[i]? = some (.ow c)) (h : XG X rest (ρ.set i (.sh c.d)) Θ ρx) : XG X rest ρ Θ ρx := fun B0 B σ H0 H Dn W tk j k => by
  obtain ⟨H0', j', _⟩ := j.share hi
  exact h B0 B σ H0' H Dn W tk j' k
theorem xg_expr (h : EG X ρ e Θ) (hs : swapsWith e none pos.line X.env = pure false := by rfl) : XG1 X (.Expr e pos) ρ Θ ρ := fun B0 B σ H0 H Dn W tk j k =>
  ⟨_, ps_expr pe_star hs, h B0 B σ H0 H _ W tk j fun v d L0 L t g => k v d σ L0 L t (j.grow g)⟩
/-- raise cn(e, ..), a class whose __init__ keeps fields -/
theorem xg_raiseF {cn : Str} {ns : List Str} {k0 : Nat} {R : List D → List D → Prop} {es : List Expr} {ds fs : List D} {p pos' : Pos} (G : FnEr X.prog X.w X.K X.mg X.base cn ns k0 R) (hr : Room (k0 + 1) X.A) (hg : Gl X cn) (ha : AD X ρ (e :: es) ds) (hR : R ds fs) (hl : ds.length ≤ 1000 := by simp only [List.length_cons, List.length_nil]; decide) (hc : X.calm = true := by rfl) (hdb : (cn == ("__debug__" : Str)) = false := by decide +kernel)
    (he : starEach (e :: es) X.env = (false, eval e X.env) :: starEach es X.env := by rfl) (hpl : (backTo pos (starEach es X.env)).any (·.1) = false := by rfl) :
    XG1 X (.Raise (some (.Call (.Name cn p) (e :: es) [] pos)) none pos') ρ (errF cn ns fs) ρ := fun B0 B σ H0 H Dn W tk j k => by
  obtain ⟨C, fI, fd, ps, hC, hm, T, iC, tI, F, hb⟩ := G.ex
  refine ⟨_, L2N.ps_raise hc tk (pmk_oexN T iC tI F hr hb (fun _ _ _ _ _ _ _ h => h.elim) hg hm pa_star hdb he hpl), ha B0 B σ H0 H _ j fun vs G0 G g r => ⟨by rw [← DRs.length r]; exact hl, fun a na => ?_⟩⟩
  have g0a : G0 a = none := g.sh.free na
  have ee : er (upd G a (exo a C none)) a = G := by
    funext b
    by_cases hb : b = a
    · subst hb; rw [er_same, na]
    · rw [er_ne hb, upd_ne hb]
  rw [List.append_nil]
  refine ⟨G0, a, ds, fs, vs, rfl, fun b u z => ?_, upd_same, g0a, r, hR, fun dx us L0 L gg n1 n2 n3 n4 n5 n6 n7 => ⟨rfl, dx, ns.zip us, n2, n3, ?_, ?_⟩⟩
  · rw [upd_ne (ne_of_none z g0a)]; exact g.sh _ _ z
  · have hda : dx ≠ a := fun z => by subst z; rw [upd_same] at n4; cases n4
    rw [upd_ne hda] at n4; exact n4
  have hda : dx ≠ a := fun z => by subst z; rw [upd_same] at n4; cases n4
  have gd : G dx = none := by rw [upd_ne hda] at n4; exact n4
  rw [ee] at gg
  have s0 : Same L0 (upd L0 dx (.xd (ns.zip us))) := fun b u z => by rw [upd_ne (ne_of_none z n5)]; exact z
  have gN : JH G0 G (upd L0 dx (.xd (ns.zip us))) (upd (L2.del L a) dx (.xd (ns.zip us))) := by
    refine ⟨gg.s0.trans s0, fun b u z => ?_, fun b u z => ?_, fun b u z nt z' => ?_⟩
    · by_cases hb : b = dx
      · subst hb; rw [upd_same] at z ⊢; exact z
      · rw [upd_ne hb] at z ⊢
        have ha2 : b ≠ a := fun q => by subst q; rw [n1] at z; cases z
        rw [L2.del_ne ha2]; exact gg.sh _ _ z
    · have hb : b ≠ dx := fun q => by subst q; rw [gd] at z; cases z
      have ha2 : b ≠ a := fun q => by subst q; rw [na] at z; cases z
      rw [upd_ne hb, L2.del_ne ha2]; exact gg.sB _ _ z
    · have hb : b ≠ dx := fun q => by subst q; rw [gd] at z; cases z
      rw [upd_ne hb]; exact gg.fr _ _ z nt z'
  exact k _ _ σ _ _ ⟨C, dx, us, hC, rfl, rfl, upd_same, n6, DRs.mono s0 _ _ n7⟩ (j.grow (g.trans gN))
end
def spXG (K : PySem.W.Frag) (R : List D → Err → Prop) : Sp := fun vs H _ E => ∃ H0 ds Θ, Same H0 H ∧ DRs K H0 ds vs ∧ R ds Θ ∧ ∀ v d H0' H', Θ K v d H0' → JH H0 H H0' H' → E v d H'
structure FnXG (P : Program) (w : World) (K : PySem.W.Frag) (mg : Str → Option Value) (base : Heap) (x : Str) (k : Nat) (R : List D → Err → Prop) : Prop where
  ex : ∃ f fd ps, FnOk P w K mg base (L2N.CX P w) k f fd ps (spXG K R) ∧ mg x = some (.ref f) ∧ PySem.W.keepIn K (.ref f) = true ∧ Binds K fd ps []
section
variable {P : Program} {w : World} {K : PySem.W.Frag} {mg : Str → Option Value} {base : Heap}
theorem fn_okXG {x qual : Str} {st : Stmt} {f : Addr} {fd : FuncData} {N ps : List Str} {k : Nat} {R : List D → Err → Prop} (F : Fun K x qual st f fd) (S : FnScope N ps (defScope st)) (hR : ∀ ds c, R ds c → ds.length = ps.length)
    (h : ∀ ds c, R ds c → ∀ (cdv : Value) (A : Around) (outer : List Env) (s : Shared) (H : Hp) (E : XK), Room k (A.deeper (envOfC qual (defScope st) s.heap.objs.size f cdv)) →
      ∃ ρx, XG (bxN P w K mg base N qual st f cdv A outer s H E) (defBody st) (en N ds) c ρx) : FnOk P w K mg base (L2N.CX P w) (k + 1) f fd ps (spXG K R) := by
  refine F.okXN S (fun vs H Q E hs => ?_) fun cdv A outer s H vs Q E hr hs => ?_
  · obtain ⟨H0, ds, d, _, r, q, _⟩ := hs
    rw [← DRs.length r]; exact hR ds d q
  · obtain ⟨H0, ds, c, s0, r, q, kk⟩ := hs
    have hN : ds.length ≤ N.length := by
      have h1 := hR ds c q
      have h2 := congrArg List.length S.pre
      rw [List.length_take] at h2
      omega
    obtain ⟨ρx, h0⟩ := h ds c q cdv A outer s H E hr
    obtain ⟨t, h1, h2⟩ := h0 H0 H (L2.start N vs) H0 H { nx := fun _ H' => Q .non H', rt := Q } (fun cls d _ H' => E cls d H') (L2N.takes_of rfl rfl rfl rfl) (j_start s0 r hN) fun v d σ' G0 G t j' => kk v d G0 G t j'.hp
    exact ⟨t, h1, h2⟩
end
section
variable {X : Cx} {ρ ρx : En} {e o : Expr} {es : List Expr} {pos p apos : Pos} {Θ : Err} {ds fds : List D} {ns : List Str} {cn m : Str} {k : Nat} {pl : Sem Bool}
theorem eg_call {x : Str} {R : List D → Err → Prop} (G : FnXG X.prog X.w X.K X.mg X.base x k R) (hr : Room k X.A) (hg : Gl X x) (ha : AD X ρ (e :: es) ds) (hR : R ds Θ)
    (hdb : (x == ("__debug__" : Str)) = false := by decide) (he : starEach (e :: es) X.env = (false, eval e X.env) :: starEach es X.env := by rfl) (hpl : (backTo pos (starEach es X.env)).any (·.1) = false := by rfl) :
    EG X ρ (.Call (.Name x p) (e :: es) [] pos) Θ := fun B0 B σ H0 H Q W tk j k => by
  obtain ⟨f, fd, ps, F, hm, hk, hb⟩ := G.ex
  refine RE.of (pe_callS (E := WE W) F hr hg hm hk hb (fun σ => L2N.passAt tk σ) pa_star hdb he hpl) (ha B0 B σ H0 H _ j fun vs G0 G g r => ?_)
  exact ⟨G0, ds, Θ, g.sh, r, hR, fun v d L0 L t g2 => k v d L0 L t (g.trans g2)⟩
/-- for x in xs: the k-th turn raises -/
theorem xg_for {tg iter : Expr} {body : List Stmt} {α : Type} {zs : List D} (xs : List α) (enc : α → D) (hc : X.calm = true) (hi : ID X ρ tg iter zs) (he : zs = xs.map enc) (I : Nat → En → Prop) (h0 : I 0 ρ) (n : Nat) {y : α} (hn : xs[n]? = some y)
    (hs : ∀ i x ρ', i < n → xs[i]? = some x → I i ρ' → ∃ is ρ'', DG X is tg (enc x) ρ' ρ'' ∧ WSs X body ρ'' (fun o => match o with | .nx r => I (i + 1) r | .ct r => I (i + 1) r | _ => False)) (hx : ∀ ρ', I n ρ' → ∃ is ρ'', DG X is tg (enc y) ρ' ρ'' ∧ XG X body ρ'' Θ ρx)
    (hp : PassesOwn (model X.prog X.w) X.A X.env X.xe) (hf : ∀ x, foldedSetIterable iter X.env x = pure x := by intro _; rfl) : XG1 X (.For tg iter body [] pos) ρ Θ ρx := fun B0 B σ H0 H Dn W tk j kk => by
  subst he
  refine ⟨_, ps_for hp hc pi_star pg_star pss_star hf, hi B0 B σ H0 H _ j fun Jt G0 G g0 ⟨GG, Y, w, hG, hY⟩ => ?_⟩
  have j0 := j.grow g0
  have hnl : n < xs.length := (List.getElem?_eq_some_iff.mp hn).1
  refine for_it w (fun i σ' H1 => i ≤ n ∧ ∃ ρ' L0, I i ρ' ∧ J X.K G0 B σ' L0 H1 ρ') ⟨Nat.zero_le _, ρ, G0, h0, j0.rebase⟩ (fun i σ' H1 _ ⟨_, ρ', L0, _, j1⟩ => hG L0 H1 j1.hp.s0 j1.hp.sh) ?_ ?_
  · rintro i x σ1 H1 H1' hi ⟨hin, ρ1, L0, hI, j1⟩ hy
    have hxl : i < xs.length := by rwa [List.length_map] at hi
    have hxi : xs[i]? = some xs[i] := List.getElem?_eq_getElem hxl
    obtain ⟨L1, g2, rx⟩ := hY i L0 H1 x H1' (enc xs[i]) (by rw [List.getElem?_map, hxi]; rfl) j1.hp.s0 j1.hp.sh hy
    rcases Nat.lt_or_eq_of_le hin with hlt | heq
    · obtain ⟨is, ρ2, hg, hb⟩ := hs i xs[i] ρ1 hlt hxi hI
      refine hg G0 B σ1 L1 H1' x _ (j1.grow g2) rx fun σ2 j2 _ => hb G0 B σ2 L1 H1' _ j2 fun o ho => ?_
      cases o with
      | nx r => exact fun σ3 M0 M j3 => ⟨hlt, r, M0, ho, j3⟩
      | ct r => exact fun σ3 M0 M j3 => ⟨hlt, r, M0, ho, j3⟩
      | bk r => exact ho.elim
      | rt v => exact ho.elim
      | ro c => exact ho.elim
      | rc v cs => exact ho.elim
    · subst heq
      rw [hxi] at hn; cases hn
      obtain ⟨is, ρ2, hg, hb⟩ := hx ρ1 hI
      exact hg G0 B σ1 L1 H1' x _ (j1.grow g2) rx fun σ2 j2 _ => hb G0 B σ2 L1 H1' _ W tk j2 fun v d σ3 M0 M t j3 => kk v d σ3 M0 M t (j0.unbase j3)
  · rintro σ1 H1 ⟨hle, _⟩
    rw [List.length_map] at hle
    omega
end
end DL
namespace DL
open PySem PySem.Spec PyProof.Rows L2
/-- the fields of errors of the class named cn may be read -/
structure Xf (K : PySem.W.Frag) (cn : Str) (ns : List Str) : Prop where
  ex : ∃ C, PySem.W.nsIn K mainGlobals cn = some (some (.ref C)) ∧ XfC K C ∧ ∀ f ∈ ns, PySem.W.findIn K (.ref C) f = some none
/-- what a class object says of an own class of errors -/
def oexD (C : Addr) (cd : ClassData) (sl : Array (Option Value)) : Bool := match cd.mro, sl.toList with
  | .ref C' :: bm, [_, _, _, _, some (.builtin n), _] => decide (C' = C) && (decide (n = "ValueError.__new__") && (!cd.hasDel && (cd.hasDict && PySem.HandSPX.refsVE bm)))
  | _, _ => false
theorem oex_mk {K : PySem.W.Frag} {C : Addr} {dd : Option Addr} {cd : ClassData} {sl : Array (Option Value)} (l : K.lookup C = some ⟨.type "type", dd, .cls cd, sl⟩) (o : oexD C cd sl = true) (sa : PySem.W.findIn K (.ref C) "__setattr__" = some (some (.builtin "object.__setattr__")))
    (ex : PySem.W.subIn K (.ref C) (.type "BaseException") = some true) (ty : PySem.W.typeIn K (.ref C) = some (.type "type")) (kp : PySem.W.keepIn K (.ref C) = true) : OexC K C := by
  refine ⟨?_, sa, ex, ty, kp⟩
  unfold oexD at o
  obtain ⟨nm, bs, mro, nsp, qn, hd, sn, sub, ab, col, del⟩ := cd
  split at o
  · rename_i C' bm k0 k1 k2 k3 n k5 hm hsl
    simp only [Bool.and_eq_true, decide_eq_true_eq, Bool.not_eq_true'] at o
    obtain ⟨rfl, rfl, hdel, hhd, hre⟩ := o
    simp only at hm hdel hhd
    subst hm hdel hhd
    have : sl = #[k0, k1, k2, k3, some (.builtin "ValueError.__new__"), k5] := by rw [← hsl]
    subst this
    exact ⟨nm, qn, nsp, bs, bm, sn, sub, ab, col, dd, k0, k1, k2, k3, k5, l, hre⟩
  · cases o
theorem takes0N {X : Cx} : L2N.Takes X (fun _ _ _ _ => False) := fun _ _ ⟨_, _, _, _, _, _, _, _, _, _, _, _, _, _, _, _, z⟩ => z.elim
section
variable {X : Cx} {ρ ρx : En} {pos : Pos} {Φ : Out → Prop} {cn : Str}
/-- try: .. except xn as n, an error with fields -/
theorem ws_tryF (i : Nat) {body suite : List Stmt} {b0 : Stmt} {n xn : Str} {ns : List Str} {ds : List D} {np pos' : Pos} (hN : X.N.Nodup) (xm : Xm X.K X.mg cn xn) (hg : Gl X xn) (hb : ∀ pn xe, PassesOwn (model X.prog X.w) X.A X.env xe → XG (X.tr pn xe) body ρ (errF cn ns ds) ρx)
    (hs : ∀ a C x oe pn, PySem.W.nsIn X.K mainGlobals cn = some (some (.ref C)) → L2N.Zn (.ref C) (some x) oe → (∃ vs, oe.data = .fields vs) → WSs (X.suite a ((a, oe) :: pn)) (b0 :: suite) (ρx.set i (.sh (.exc a x ns ds))) (Aft i Φ))
    (hi : X.N[i]? = some n := by rfl) (hdb : (xn == ("__debug__" : Str)) = false := by decide +kernel) (hln : X.env.kindOf n = some .local := by rfl) (hst : X.stack = X.env :: X.outer := by rfl) (hf : X.env.frame = some X.env.locals := by rfl) :
    WS X (.Try body [.ExceptHandler (some (.Name xn np)) (some n) (b0 :: suite) pos'] [] [] pos) ρ Φ := fun B0 B σ H0 H Dn j k => by
  obtain ⟨C, D, hC, hD, hex⟩ := xm.ex
  refine ⟨_, L2N.ps_try_as (i := i) (Wout := fun _ _ _ _ => False) (tb := fun W D σ H => ∀ pn xe, L2N.Takes (X.tr pn xe) W → PassesOwn (model X.prog X.w) X.A X.env xe → RSs (X.tr pn xe) body D σ H)
    (ts := fun a cls d D σ H => ∀ oe pn, L2N.Zn cls d oe → (∃ vs, oe.data = .fields vs) → RSs (X.suite a ((a, oe) :: pn)) (b0 :: suite) D σ H) hst hf hN hi hln (show Names X xn (.ref D) from ⟨hg, hdb, .inl hD⟩) takes0N
    (fun W pn xe tk po => ⟨fun pins s σ H D I h => pss_star.run pins s σ H D I (h pn xe tk po)⟩) (fun a oe cls d pn hz hf => ⟨fun pins s σ H D I h => pss_star.run pins s σ H D I (h oe pn hz hf)⟩), ?_⟩
  intro pn xe tk po
  refine hb pn xe po B0 B σ H0 H Dn _ tk j fun v d σ' L0 L t j' => ?_
  obtain ⟨C', x, us, hC', rfl, rfl, hx, hlen, hds⟩ := t
  have hC'' : PySem.W.nsIn X.K mainGlobals cn = some (some (.ref C')) := hC'
  rw [hC] at hC''; cases hC''
  refine ⟨true, hex, fun _ a ha oe pn' hz hfl => ?_, fun z => nomatch z⟩
  refine hs a C x oe pn' hC hz hfl B0 B _ L0 L _ (J.setSh j' (d := .exc a x ns ds) (v := .ref a) ⟨rfl, us, hx, hlen, hds⟩) fun o ho => ?_
  cases o with
  | nx ρ' => exact fun σ'' M0 M j2 => k _ ho _ M0 M (J.setNo j2 i)
  | bk ρ' => exact fun σ'' M0 M j2 => k _ ho _ M0 M (J.setNo j2 i)
  | ct ρ' => exact fun σ'' M0 M j2 => k _ ho _ M0 M (J.setNo j2 i)
  | rt d => exact k _ ho
  | ro c => exact k _ ho
  | rc d cs => exact k _ ho
/-- e.f of an error that a suite holds -/
theorem ed_xfld {a x C : Addr} {oe : Obj} {pn : List (Addr × Obj)} {e : Expr} {f : Str} {ns : List Str} {ds : List D} {d : D} (m : Nat) (xf : Xf X.K cn ns) (hC : PySem.W.nsIn X.K mainGlobals cn = some (some (.ref C))) (hz : L2N.Zn (.ref C) (some x) oe) (hf : ∃ vs, oe.data = .fields vs)
    (he : ED (X.suite a ((a, oe) :: pn)) ρ e (.exc a x ns ds)) (hn : ns[m]? = some f := by rfl) (hd : ds[m]? = some d := by rfl) (hu : (ns.take m).contains f = false := by decide +kernel) (hb : attributeBase e f X.env (eval e X.env) = eval e X.env := by rfl) :
    ED (X.suite a ((a, oe) :: pn)) ρ (.Attribute e f pos) d := fun B0 B σ H0 H Q j k => by
  obtain ⟨C', hC', T, hno⟩ := xf.ex
  rw [hC] at hC'; cases hC'
  refine RE.of (pe_xf T (hno f (List.mem_of_getElem? hn)) hz.zc hf pe_star hb) (he B0 B σ H0 H _ j fun v G0 G g r => ?_)
  obtain ⟨rfl, us, h1, h2, h3⟩ := r
  obtain ⟨v, hv, rv⟩ := DRs.get h3 hd
  exact ⟨rfl, rfl, x, _, v, rfl, g.sh _ _ h1, zip_at hn hu hv, k v G0 G g rv⟩
end
end DL
namespace DL
open PySem PySem.Spec PyProof.Rows L2
section
variable {X : Cx} {ρ ρx : En} {pos : Pos} {Φ : Out → Prop} {cn : Str} {Θ : Err}
theorem ws_tryFS (i : Nat) {body suite : List Stmt} {b0 : Stmt} {n xn : Str} {ns : List Str} {ds : List D} {np pos' : Pos} (hN : X.N.Nodup) (xm : Xm X.K X.mg cn xn) (hg : Gl X xn) (hb : ∀ pn xe, PassesOwn (model X.prog X.w) X.A X.env xe → XG (X.tr pn xe) body ρ (errF cn ns ds) ρ)
    (hs : ∀ a C x oe pn, PySem.W.nsIn X.K mainGlobals cn = some (some (.ref C)) → L2N.Zn (.ref C) (some x) oe → (∃ vs, oe.data = .fields vs) → WSs (X.suite a ((a, oe) :: pn)) (b0 :: suite) (ρ.set i (.sh (.exc a x ns ds))) (Aft i Φ))
    (hi : X.N[i]? = some n := by rfl) (hdb : (xn == ("__debug__" : Str)) = false := by decide +kernel) (hln : X.env.kindOf n = some .local := by rfl) (hst : X.stack = X.env :: X.outer := by rfl) (hf : X.env.frame = some X.env.locals := by rfl) :
    WS X (.Try body [.ExceptHandler (some (.Name xn np)) (some n) (b0 :: suite) pos'] [] [] pos) ρ Φ := ws_tryF i hN xm hg hb hs hi hdb hln hst hf
/-- for x in xs, told slot by slot: the n-th turn raises -/
theorem xg_forU {tg iter : Expr} {body : List Stmt} {α U : Type} {zs : List D} (xs : List α) (enc : α → D) (hc : X.calm = true) (hi : ID X ρ tg iter zs) (he : zs = xs.map enc) (G : Nat → U → List (Nat × Sl)) (V : En → U) (n : Nat) {y : α} (hn : xs[n]? = some y) (hρ : upds ρ (G 0 (V ρ)) = ρ)
    (hs : ∀ i x u, i < n → xs[i]? = some x → ∃ is ρ'', DG X is tg (enc x) (upds ρ (G i u)) ρ'' ∧ WSs X body ρ'' (fun o => match o with | .nx r => upds ρ (G (i + 1) (V r)) = r | .ct r => upds ρ (G (i + 1) (V r)) = r | _ => False))
    (hx : ∀ u, ∃ is ρ'', DG X is tg (enc y) (upds ρ (G n u)) ρ'' ∧ XG X body ρ'' Θ ρx) (hp : PassesOwn (model X.prog X.w) X.A X.env X.xe) (hf : ∀ x, foldedSetIterable iter X.env x = pure x := by intro _; rfl) : XG1 X (.For tg iter body [] pos) ρ Θ ρx := by
  refine xg_for xs enc hc hi he (fun i r => ∃ u, upds ρ (G i u) = r) ⟨_, hρ⟩ n hn (fun i x r hin hxi hI => ?_) (fun r hI => ?_) hp hf
  · obtain ⟨u, rfl⟩ := hI
    obtain ⟨is, r2, h1, h2⟩ := hs i x u hin hxi
    refine ⟨is, r2, h1, ws_mono h2 fun o ho => ?_⟩
    cases o with
    | nx r => exact ⟨_, ho⟩
    | ct r => exact ⟨_, ho⟩
    | bk r => exact ho
    | rt v => exact ho
    | ro c => exact ho
    | rc v cs => exact ho
  · obtain ⟨u, rfl⟩ := hI
    exact hx u
end
end DL
namespace DL
open PySem PySem.Spec PyProof.Rows L2
section
variable {X : Cx} {ρ : En} {elt tg iter tg1 iter1 : Expr} {scope : Scope} {ds : List D} {cpos pos : Pos} {α β : Type}
theorem ws_setLc2 {Φ : Out → Prop} {i : Nat} {y : Str} {py : Pos} (own : List (Str × Nat)) (vs1 : List Nat) (xs : List α) (enc : α → D) (ys : α → List β) (enc1 : β → D) (f : α → β → D) (hc : X.calm = true) (hN : X.N.Nodup) (ok : BlkOk X.N X.env.scope scope own) (hv : ∀ i ∈ vs1, i ∈ own.map (·.2)) (hno : noOw ρ = true) (hi : ID X ρ tg iter ds) (he : ds = xs.map enc)
    (turn : ∀ x ∈ xs, ∃ ρ1 ds1, noOw ρ1 = true ∧ ρ1.length = ρ.length ∧ ds1 = (ys x).map enc1 ∧ ∀ (s : Shared) (H : Hp) (C : Addr) (cl : List (Str × Addr)) (fp : List Addr), DG (X.blk s H scope (compEnvC scope cl C X.env) fp) (own.map (·.2)) tg (enc x) (wipeE ρ (own.map (·.2))) ρ1 ∧
      ID (X.blk s H scope (compEnvC scope cl C X.env) fp) ρ1 tg1 iter1 ds1 ∧ ∀ y ∈ ys x, ∃ ρ2, ρ2.length = ρ.length ∧ ∀ (s : Shared) (H : Hp) (C : Addr) (cl : List (Str × Addr)) (fp : List Addr), DG (X.blk s H scope (compEnvC scope cl C X.env) fp) vs1 tg1 (enc1 y) (wipeE ρ1 vs1) ρ2 ∧ ED (X.blk s H scope (compEnvC scope cl C X.env) fp) ρ2 elt (f x y))
    (hl : (xs.flatMap fun x => (ys x).map (f x)).length ≤ sizeLine) (hΦ : Φ (.nx (ρ.set i (.ow (.lst (xs.flatMap fun x => (ys x).map (f x))))))) (hy : X.N[i]? = some y := by rfl) (hyl : X.env.scope.names.lookup y = some .local := by rfl)
    (hsw : swapsWith (.ListComp elt [⟨tg, iter, [], 0⟩, ⟨tg1, iter1, [], 0⟩] scope cpos) (some (.Name y py)) pos.line X.env = pure true := by exact sw_true rfl rfl rfl (by decide +kernel)) (hs : ∀ x, foldedSetIterable iter X.env x = pure x := by intro _; rfl) (hs1 : ∀ env x, foldedSetIterable iter1 env x = pure x := by intro _ _; rfl) :
    WS X (.Assign [.Name y py] (.ListComp elt [⟨tg, iter, [], 0⟩, ⟨tg1, iter1, [], 0⟩] scope cpos) pos) ρ Φ := fun B0 B σ H0 H De j kk => by
  subst he
  refine ⟨_, ps_setLc2 (i := i) (vs1 := vs1) hc hN hy hyl hsw pi_star ok hv (g := GB X scope tg) (tt := TB X scope []) (wi1 := IB X scope tg1 iter1) (g1 := GB X scope tg1) (tt1 := TB X scope []) (te := EB X scope elt)
    (fun s H C cl fp => ⟨fun pins s1 σ1 H1 v u Q1 I r h => (pg_star (tg := tg)).run pins s1 σ1 H1 v u Q1 I r (h s H C cl fp)⟩)
    (fun s H C cl fp => ⟨fun pins s1 σ1 H1 Q1 I h => by obtain ⟨t, h1, h2⟩ := h s H C cl fp; exact h1.run pins s1 σ1 H1 Q1 I h2⟩)
    (fun s H C cl fp => ⟨fun pins s1 σ1 H1 R I h => (pi_star (tg := tg1) (it := iter1)).run pins s1 σ1 H1 R I (h s H C cl fp)⟩)
    (fun s H C cl fp => ⟨fun pins s1 σ1 H1 v u Q1 I r h => (pg_star (tg := tg1)).run pins s1 σ1 H1 v u Q1 I r (h s H C cl fp)⟩)
    (fun s H C cl fp => ⟨fun pins s1 σ1 H1 Q1 I h => by obtain ⟨t, h1, h2⟩ := h s H C cl fp; exact h1.run pins s1 σ1 H1 Q1 I h2⟩)
    (fun s H C cl fp => ⟨fun pins s1 σ1 H1 Q1 I h => (pe_star (e := elt)).run pins s1 σ1 H1 Q1 I (h s H C cl fp)⟩) hs hs1, ?_⟩
  have k : ∀ a o H0' H', JH H0 H H0' H' → H' a = some o → H0' a = none → H a = none → OCR X.K H0' (.lst (xs.flatMap fun x => (ys x).map (f x))) o → gName i (.ref a) σ H' De.nx := fun a o H0' H' g h1 h2 h3 r => kk _ hΦ _ H0' H' (j.setNew g h1 h2 h3 r)
  refine hi B0 B σ H0 H _ j fun Jt G0 G g0 ⟨GG, Y, w, hG, hY⟩ => fun Dn hD => ?_
  have j0 := j.grow g0
  obtain ⟨r, hr⟩ : ∃ r : α → List D, r = fun x => (ys x).map (f x) := ⟨_, rfl⟩
  have hr' : ∀ x, (ys x).map (f x) = r x := fun x => by rw [hr]
  have hlen : (xs.map enc).length = xs.length := List.length_map _
  let Pv : Nat → Hp → Prop := fun i H1 => ∃ L0 acc, JH G0 G L0 H1 ∧ H1 Dn = some (.lst acc) ∧ L0 Dn = none ∧ DRs X.K L0 ((xs.take i).flatMap r) acc
  refine ⟨fun i m H1 => m = xs.length - i ∧ i ≤ xs.length ∧ Pv i H1, ⟨xs.length, by simp, Nat.zero_le _, G0, [], JH.own g0.sh hD, upd_same, g0.sh.free hD, rfl⟩, ?_⟩
  rintro i m H1 ⟨rfl, hi1, L0, acc, g1, hDn, hD0, racc⟩
  by_cases hlt : i < xs.length
  · refine .inr ⟨w.goes i H1 (by omega) (hG L0 H1 g1.s0 g1.sh), Pv (i + 1), fun H' p' => ⟨xs.length - (i + 1), by omega, rfl, hlt, p'⟩, fun x H1' hy => ?_⟩
    obtain ⟨xv, hxv⟩ : ∃ x, xs[i]? = some x := ⟨xs[i], by simp [hlt]⟩
    obtain ⟨L1, g2, rx⟩ := hY i L0 H1 x H1' (enc xv) (by rw [List.getElem?_map, hxv]; rfl) g1.s0 g1.sh (w.yields i H1 x H1' (by omega) (hG L0 H1 g1.s0 g1.sh) hy)
    obtain ⟨ρ1, ds1, no1, len1, e1, T⟩ := turn xv (List.mem_of_getElem? hxv)
    subst e1
    have j1 := ((j0.grow g1).grow g2).wipe (own.map (·.2))
    have gg := g1.trans g2
    intro s Hs C cl fp
    refine (T s Hs C cl fp).1 B0 B _ L1 H1' x _ j1 rx fun σ2 j2 off => ⟨wipe_back (by rw [j2.len, len1, ← wipeE_length ρ (own.map (·.2)), ← j1.len, wipe_length]) off, ?_⟩
    intro s Hs C cl fp
    refine rts_nil ?_
    simp only [if_true]
    intro s Hs C cl fp
    refine (T s Hs C cl fp).2.1 B0 B σ2 L1 H1' _ j2 fun J1 M0 M g3 ⟨GG1, Y1, w1, hG1, hY1⟩ => ?_
    have hDnM : M Dn = some (.lst acc) := g3.sB _ _ (g2.sB _ _ hDn)
    have hDM0 : M0 Dn = none := g3.fr _ _ (g2.sB _ _ hDn) trivial (g2.fr _ _ hDn trivial hD0)
    have n1 : ((ys xv).map enc1).length = (ys xv).length := List.length_map _
    let Pv1 : Nat → Hp → Prop := fun jx H2 => ∃ L2 acc, JH G0 G L2 H2 ∧ Same M0 L2 ∧ H2 Dn = some (.lst acc) ∧ L2 Dn = none ∧ DRs X.K L2 ((xs.take i).flatMap r ++ ((ys xv).take jx).map (f xv)) acc
    refine ⟨fun jx m H2 => m = (ys xv).length - jx ∧ jx ≤ (ys xv).length ∧ Pv1 jx H2, ⟨(ys xv).length, by simp, Nat.zero_le _, M0, acc, gg.trans g3, Same.refl _, hDnM, hDM0, by simpa using DRs.mono (g2.trans g3).s0 _ _ racc⟩, ?_⟩
    rintro jx m H2 ⟨rfl, hj1, L2, acc2, g4, s4, hDn2, hD02, racc2⟩
    by_cases hjlt : jx < (ys xv).length
    · refine .inr ⟨w1.goes jx H2 (by omega) (hG1 L2 H2 s4 g4.sh), Pv1 (jx + 1), fun H' p' => ⟨(ys xv).length - (jx + 1), by omega, rfl, hjlt, p'⟩, fun y H2' hy => ?_⟩
      obtain ⟨yv, hyv⟩ : ∃ y, (ys xv)[jx]? = some y := ⟨(ys xv)[jx], by simp [hjlt]⟩
      obtain ⟨L3, g5, ry⟩ := hY1 jx L2 H2 y H2' (enc1 yv) (by rw [List.getElem?_map, hyv]; rfl) s4 g4.sh (w1.yields jx H2 y H2' (by omega) (hG1 L2 H2 s4 g4.sh) hy)
      obtain ⟨ρ2, len2, T2⟩ := (T s Hs C cl fp).2.2 yv (List.mem_of_getElem? hyv)
      have g45 := g4.trans g5
      have j3 := (j2.reseat no1 (g3.s0.trans (s4.trans g5.s0)) (j0.hp.trans g45)).wipe vs1
      intro s Hs C cl fp
      refine (T2 s Hs C cl fp).1 B0 B _ L3 H2' y _ j3 ry fun σ3 j4 off => ⟨wipe_back (by rw [j4.len, len2, ← len1, ← wipeE_length ρ1 vs1, ← j3.len, wipe_length]) off, ?_⟩
      intro s Hs C cl fp
      refine rts_nil ?_
      simp only [if_true]
      intro s Hs C cl fp
      refine (T2 s Hs C cl fp).2 B0 B σ3 L3 H2' _ j4 fun v N0 N g6 rv => ?_
      have g56 := g5.trans g6
      have h4 : N Dn = some (.lst acc2) := g56.sB _ _ hDn2
      have h40 : N0 Dn = none := g56.fr _ _ hDn2 trivial hD02
      have gl := g4.trans g56
      have hroom : acc2.length < sizeLine := by
        have q1 := DRs.length racc2
        have q2 := flat_room r hxv (j := jx) (by rw [hr]; simpa using hjlt)
        simp only [List.length_append, List.length_map, List.length_take] at q1
        rw [hr] at q1 q2
        omega
      refine ⟨acc2, h4, hroom, N0, acc2 ++ [v], ⟨gl.s0, fun b u e => upd_keep (gl.sh b u e) (ne_of_none e h40), fun b u e => upd_keep (gl.sB b u e) (ne_of_none e hD), gl.fr⟩, s4.trans g56.s0, upd_same, h40, ?_⟩
      rw [List.take_add_one, hyv, List.map_append, ← List.append_assoc]
      exact DRs.app (DRs.mono g56.s0 _ _ racc2) (DRs.one rv)
    · have e : jx = (ys xv).length := by omega
      subst e
      have st := w1.stops H2 (hG1 L2 H2 s4 g4.sh)
      rw [n1] at st
      refine .inl ⟨st, L2, acc2, g4, hDn2, hD02, ?_⟩
      · rw [flat_take r hxv, ← hr' xv]
        rw [List.take_length] at racc2
        exact racc2
  · have e : i = xs.length := by omega
    subst e
    refine .inl ⟨?_, ?_⟩
    · have := w.stops H1 (hG L0 H1 g1.s0 g1.sh)
      rwa [hlen] at this
    · rw [List.take_length] at racc
      exact k Dn _ L0 H1 (g0.trans g1) hDn hD0 (g0.sB.free hD) ⟨acc, rfl, by rw [← hr]; exact racc⟩
end
end DL
namespace DL
open PySem PySem.Spec PyProof.Rows L2
def mergeK (kvs more : List (Key × V)) : List (Key × V) := more.foldl (fun acc p => putK acc p.1 p.2) kvs
theorem mergeK_len : ∀ (more kvs : List (Key × V)), (mergeK kvs more).length ≤ kvs.length + more.length
  | [], kvs => Nat.le_refl _
  | p :: more, kvs => by
    have h := mergeK_len more (putK kvs p.1 p.2)
    have h2 := length_putK kvs p.1 p.2
    show (mergeK (putK kvs p.1 p.2) more).length ≤ _
    simp only [List.length_cons]; omega
theorem kv_merge {more : List (Key × V)} {ms : List (Key × Value)} (h : KV more ms) : ∀ {kvs : List (Key × V)} {vs : List (Key × Value)}, KV kvs vs → KV (mergeK kvs more) (merged vs ms) := by
  unfold KV at h
  induction h with
  | nil => exact fun r => r
  | @cons p q ps qs h t ih =>
    intro kvs vs r
    obtain ⟨h1, h2⟩ := h
    have r2 := r.put p.1 h2
    rw [show stored vs p.1 q.2 = stored vs q.1 q.2 by rw [h1]] at r2
    exact ih r2
section
variable {X : Cx} {pins : List (Addr × Obj)} {σ : L2.St} {H : Hp} {s : Shared} {a b : Addr} {A : Around} {E : Value → Shared → Prop}
theorem d_upd {kvs more : List (Key × V)} {Q : Value → Shared → Prop} (I : Inv X pins σ H s) (e : H a = some (.dK kvs)) (e2 : H b = some (.dK more)) (hne : a ≠ b) (hl : kvs.length + more.length ≤ sizeLine)
    (h : ∀ (s' : Shared), Inv X pins σ (upd H a (.dK (mergeK kvs more))) s' → Q .none s') :
    wpAny (model X.prog X.w) A (call (.builtin "dict.update") [.ref a, .ref b]) Q E s := by
  obtain ⟨z, hd, vs, rel, dd⟩ := dk_of I.hok e
  obtain ⟨z2, hd2, ms, rel2, dd2⟩ := dk_of I.hok e2
  refine call_meetsIn PySem.F.slot_dict_update dd.typeIs PySem.F.entry_dict_update (PySem.F.args_dict_update_2 _ _) (meets_dict_update (mixKind X.prog X.w) a b hne hd2) ⟨vs, ms, dd, dd2, by rw [← rel.length, ← rel2.length]; exact hl, fun h' dd' _ hs => ?_⟩
  have he : ∃ q, h'.get? a = some q := let ⟨q, _, _, hq, _⟩ := dd'; ⟨q, hq⟩
  have hl2 := mergeK_len more kvs
  exact h _ (d_write (t' := s.toks) I (by rw [e]; exact True.intro) hs he (dk_new (by omega) hd (kv_merge rel2 rel) dd'))
def rDupd : V → List V → Hp → VK → Prop := fun x vs H Q => ∃ a b kvs more, x = .ref a ∧ vs = [.ref b] ∧ a ≠ b ∧ H a = some (.dK kvs) ∧ H b = some (.dK more) ∧ kvs.length + more.length ≤ sizeLine ∧ Q .non (upd H a (.dK (mergeK kvs more)))
theorem mt_dupd : MtM X "dict.update" rDupd := by
  intro pins s σ H x vs v us Q I rx rv h
  obtain ⟨a, b, kvs, more, rfl, rfl, hne, e, e2, hl, q⟩ := h
  cases rx
  obtain ⟨u, rfl, ru⟩ := rv.one
  cases ru
  exact d_upd I e e2 hne hl fun s' I' => ⟨.non, _, I', rfl, q⟩
end
theorem mergeK_zip : ∀ {ks2 : List Key} {ws : List V} {ks : List Key} {vs : List V}, ks.length = vs.length → ks2.length = ws.length → (ks ++ ks2).Nodup → mergeK (ks.zip vs) (ks2.zip ws) = (ks ++ ks2).zip (vs ++ ws)
  | [], ws, ks, vs, _, h2, _ => by
    cases ws with
    | nil => simp [mergeK]
    | cons _ _ => simp at h2
  | k :: ks2, [], ks, vs, _, h2, _ => by simp at h2
  | k :: ks2, w :: ws, ks, vs, h1, h2, nd => by
    have hk : k ∉ ks := fun m => (List.nodup_append.mp nd).2.2 k m k List.mem_cons_self rfl
    have ih := mergeK_zip (ks2 := ks2) (ws := ws) (ks := ks ++ [k]) (vs := vs ++ [w]) (by simp [h1]) (by simpa using h2) (by rw [List.append_assoc]; exact nd)
    show mergeK (putK (ks.zip vs) k w) (ks2.zip ws) = _
    rw [putK_zip h1 hk, ih, List.append_assoc, List.append_assoc]; rfl
section
variable {X : Cx} {ρ : En} {e : Expr} {pos : Pos}
/-- x.update(e), x the dict that slot i owns, e a new dict with other keys -/
theorem ws_updO (i : Nat) {x : Str} {ks ks2 : List Key} {ds ds2 : List D} {p1 p2 p3 : Pos} {Φ : Out → Prop} (hi : ρ[i]? = some (.ow (.dk ks ds))) (he : EO X ρ e (.dk ks2 ds2)) (nd : (ks ++ ks2).Nodup) (hl : ks.length + ks2.length ≤ sizeLine) (hΦ : Φ (.nx (ρ.set i (.ow (.dk (ks ++ ks2) (ds ++ ds2))))))
    (hpe : ∀ {ta : TA}, L2.PA X [e] ta → L2.PS X (.Expr (.Call (.Attribute (.Name x p1) "update" p2) [e] [] p3) pos) (tDrop (tBM X.K "dict" rDupd (tVar i) ta)))
    (hs : starEach [e] X.env = (false, eval e X.env) :: starEach [] X.env := by rfl) :
    WS X (.Expr (.Call (.Attribute (.Name x p1) "update" p2) [e] [] p3) pos) ρ Φ := fun B0 B σ H0 H Dn j k => by
  obtain ⟨ov, e0, a, o, rfl, w0, w2, w3, w4⟩ := j.get hi
  obtain ⟨vs0, rfl, hl0, r0⟩ := w4
  refine ⟨_, hpe (pa_cons pe_star pa_nil hs), _, e0, ?_, he B0 B σ H0 H _ j fun q o G0 G g y1 y2 y3 y4 => ?_⟩
  · exact Or.inr (Or.inr (Or.inl ⟨rfl, Or.inl ⟨_, w0⟩⟩))
  obtain ⟨ws, rfl, hl2, rw⟩ := y4
  have j1 := j.grow g
  obtain ⟨ov, e1, a', o, e9, w1, w2, w3, w4⟩ := j1.get hi
  rw [e0] at e1; cases e1; cases e9
  obtain ⟨vs, rfl, hl1, r'⟩ := w4
  refine ⟨a, q, _, _, rfl, rfl, fun z => ?_, w1, y1, by rw [List.length_zip, List.length_zip, ← hl1, ← hl2]; omega, ?_⟩
  · rw [← z, w0] at y3; cases y3
  · rw [mergeK_zip hl1 hl2 nd]
    exact k _ hΦ _ G0 _ (j1.write hi e0 ⟨_, rfl, by simp [hl1, hl2], DRs.app r' rw⟩)
end
end DL
namespace DL
open PySem PySem.Spec PyProof.Rows L2
theorem J.lendA {K : PySem.W.Frag} {B0 B H0 H : Hp} {σ : L2.St} {ρ : En} (j : J K B0 B σ H0 H ρ) {i : Nat} {da : List D} (h : ρ[i]? = some (.ow (.lst da))) :
    ∃ a va, H0 a = none ∧ J K B0 B σ (upd H0 a (.lst va)) H (ρ.set i (.sh (.lst da))) := by
  obtain ⟨ov, e1, a, o, e2, h1, h2, h3, va, rfl, h4⟩ := j.get h
  subst e2
  exact ⟨a, va, h2, (j.shareAt (s' := .sh (.lst da)) (c := .lst da) h e1 rfl h1 ⟨va, rfl, h4⟩ (fun b w => w.elim) fun r => ⟨_, rfl, r⟩).1⟩
end DL
namespace DL
open PySem PySem.Spec PyProof.Rows L2
def nosE (n : Nat) : En := List.replicate n .no
theorem J.nos {K : PySem.W.Frag} {B0 B H0 H : Hp} {σ : L2.St} {ρ : En} {n : Nat} (j : J K B0 B σ H0 H ρ) (h : ρ.length = n) : J K B0 B σ H0 H (nosE n) := by
  unfold nosE
  have key : ∀ (i : Nat) s, (List.replicate n Sl.no)[i]? = some s → s = .no := fun i s e => by
    rw [List.getElem?_replicate] at e
    split at e
    · exact (Option.some.inj e).symm
    · cases e
  refine ⟨j.hp, by rw [j.len, h, List.length_replicate], fun i s ov h1 _ => ?_, fun i k s s' ov ov' a h1 _ _ _ w _ => ?_⟩
  · rw [key i s h1]; trivial
  · rw [key i s h1] at w; exact w.elim
/-- nothing more is told of the slots -/
theorem xg_no {X : Cx} {sts : List Stmt} {ρ ρ' : En} {Θ : Err} {n : Nat} (h : XG X sts ρ Θ ρ') (hl : ρ'.length = n := by first | rfl | simp) : XG X sts ρ Θ (nosE n) := fun B0 B σ H0 H Dn W tk j k =>
  h B0 B σ H0 H Dn W tk j fun v d σ' H0' H' t j' => k v d σ' H0' H' t (j'.nos hl)
end DL
namespace DL
open PySem PySem.Spec PyProof.Rows L2
/-- the items of a dict, as data -/
def itK (ks : List Key) (ds : List D) : List D := (ks.zip ds).map fun q => .tup [kD q.1, q.2]
theorem itK_len {ks : List Key} {ds : List D} (h : ks.length = ds.length) : (itK ks ds).length = ks.length := by unfold itK; rw [List.length_map, List.length_zip]; omega
theorem walk_itemsK {d : Addr} {o : Obj} {kvs : List (Key × V)} : Walk (Iti d o kvs) kvs.length (fun H => H d = some (.frz o (.dK kvs)))
    (fun i H x H' => ∃ T k v, kvs[i]? = some (k, v) ∧ x = .ref T ∧ H T = none ∧ H' = upd H T (.tup [kV k, v])) :=
  ⟨fun _ _ hi q => ⟨q, hi⟩, fun _ q => ⟨q, Nat.le_refl _⟩, fun _ _ _ _ _ _ y => y⟩
theorem kD_dr {K : PySem.W.Frag} {H : Hp} (k : Key) : DR K H (kD k) (kV k) := by cases k <;> rfl
theorem dw_itemsK {K : PySem.W.Frag} {H0 : Hp} {a : Addr} {od : Obj} {ks : List Key} {ds : List D} {vs : List V} (h : H0 a = some (.frz od (.dK (ks.zip vs)))) (hl : ks.length = vs.length) (r : DRs K H0 ds vs) : DWalk K (Iti a od (ks.zip vs)) H0 (itK ks ds) := by
  have hds : ks.length = ds.length := by rw [hl, DRs.length r]
  have hz : (ks.zip vs).length = (itK ks ds).length := by rw [itK_len hds, List.length_zip]; omega
  refine ⟨_, _, (by rw [← hz]; exact walk_itemsK), fun H1 H s1 s2 => s2 _ _ (s1 _ _ h), fun i H1 H x H' d hd s1 s2 y => ?_⟩
  obtain ⟨T, k, v, h1, rfl, h3, rfl⟩ := y
  obtain ⟨hk, hv⟩ := zip_get h1
  unfold itK at hd
  rw [List.getElem?_map] at hd
  cases e : (ks.zip ds)[i]? with
  | none => rw [e] at hd; cases hd
  | some p =>
    obtain ⟨k', d'⟩ := p
    obtain ⟨hk', hd'⟩ := zip_get e
    rw [hk] at hk'; cases hk'
    rw [e] at hd
    simp only [Option.map_some, Option.some.injEq] at hd
    subst hd
    obtain ⟨v', hv', rv⟩ := DRs.get r hd'
    rw [hv] at hv'; cases hv'
    have gT : JH H1 H (upd H1 T (.tup [kV k, v])) (upd H T (.tup [kV k, v])) := JH.new s2 h3
    exact ⟨_, gT, T, _, rfl, SqT.of upd_same, kV k, _, rfl, kD_dr k, v, [], rfl, DR.mono (s1.trans gT.s0) _ _ rv, rfl⟩
section
variable {X : Cx} {ρ : En} {pos : Pos} {kx vx elt tg iter tg1 iter1 : Expr} {ifs : List Expr} {scope : Scope} {own : List (Str × Nat)} {ds : List D} {cpos : Pos} {Φ : Out → Prop} {α β : Type}
/-- one turn of a dict comprehension with tests -/
def TurnDF (X : Cx) (ρ : En) (scope : Scope) (vs : List Nat) (tg kx vx : Expr) (ifs : List Expr) (d : D) (y : Option (Key × D)) : Prop :=
  ∃ ρ' : En, ρ'.length = ρ.length ∧ ∀ (s : Shared) (H : Hp) (C : Addr) (cl : List (Str × Addr)) (fp : List Addr), DG (X.blk s H scope (compEnvC scope cl C X.env) fp) vs tg d (wipeE ρ vs) ρ' ∧
    (match y with
    | some z => TDs (X.blk s H scope (compEnvC scope cl C X.env) fp) ρ' ifs true ∧ ED (X.blk s H scope (compEnvC scope cl C X.env) fp) ρ' kx (kD z.1) ∧ ED (X.blk s H scope (compEnvC scope cl C X.env) fp) ρ' vx z.2
    | none => TDs (X.blk s H scope (compEnvC scope cl C X.env) fp) ρ' ifs false)
abbrev TDcC (X : Cx) (scope : Scope) (own : List (Str × Nat)) (tg kx vx iter : Expr) (ifs : List Expr) : TE := tDc (RI X tg iter) (GB X scope tg) (TB X scope ifs) (EB X scope kx) (EB X scope vx) (own.map (·.2))
theorem dc_readF {B0 B : Hp} {σ : L2.St} {H0 H : Hp} {Q : VK} (hi : ∀ R, (∀ Jt H0' H', JH H0 H H0' H' → DWalk X.K Jt H0' ds → R Jt H') → RI X tg iter σ H R) (ys : List (Option (Key × D))) (hlen : ys.length = ds.length) (nd : ((ys.filterMap id).map (·.1)).Nodup) (turn : ∀ (i : Nat) d y, ds[i]? = some d → ys[i]? = some y → TurnDF X ρ scope (own.map (·.2)) tg kx vx ifs d y) (hl : ds.length ≤ sizeLine) (j : J X.K B0 B σ H0 H ρ)
    (k : ∀ a o H0' H', JH H0 H H0' H' → H' a = some o → H0' a = none → H a = none → OCR X.K H0' (.dk ((ys.filterMap id).map (·.1)) ((ys.filterMap id).map (·.2))) o → Q (.ref a) H') : TDcC X scope own tg kx vx iter ifs σ H Q := by
  refine hi _ fun Jt G0 G g0 ⟨GG, Y, w, hG, hY⟩ => fun Dn hD => ?_
  have j0 := j.grow g0
  refine dc_it (g := GB X scope tg) (tt := TB X scope ifs) (tk := EB X scope kx) (tv := EB X scope vx) (vs := own.map (·.2)) (Qd := fun H => Q (.ref Dn) H) w
    (fun i H1 => ∃ L0 acc, JH G0 G L0 H1 ∧ H1 Dn = some (.dK ((((ys.take i).filterMap id).map (·.1)).zip acc)) ∧ L0 Dn = none ∧ acc.length = ((ys.take i).filterMap id).length ∧ DRs X.K L0 (((ys.take i).filterMap id).map (·.2)) acc) ⟨G0, [], JH.own g0.sh hD, upd_same, g0.sh.free hD, rfl, rfl⟩ (fun i H1 _ ⟨L0, acc, g1, _⟩ => hG L0 H1 g1.s0 g1.sh) ?_ ?_
  · rintro i x H1 H1' hi ⟨L0, acc, g1, hDn, hD0, hla, racc⟩ hy
    obtain ⟨d, hd⟩ : ∃ d, ds[i]? = some d := ⟨ds[i], by simp [hi]⟩
    obtain ⟨L1, g2, rx⟩ := hY i L0 H1 x H1' d hd g1.s0 g1.sh hy
    obtain ⟨yo, hyo⟩ : ∃ y, ys[i]? = some y := ⟨ys[i]'(by omega), by simp [show i < ys.length by omega]⟩
    obtain ⟨ρ', hlen', turn⟩ := turn i d yo hd hyo
    have j1 := ((j0.grow g1).grow g2).wipe (own.map (·.2))
    intro s Hs C cl fp
    refine (turn s Hs C cl fp).1 B0 B _ L1 H1' x _ j1 rx fun σ2 j2 off => ⟨wipe_back (by rw [j2.len, hlen', ← wipeE_length ρ (own.map (·.2)), ← j1.len, wipe_length]) off, ?_⟩
    have gg := g1.trans g2
    have hDn' := g2.sB _ _ hDn
    have hD0' : L1 Dn = none := g2.fr _ _ hDn trivial hD0
    have eT := filterMap_take id ys i yo hyo
    cases yo with
    | none =>
      intro s Hs C cl fp
      have t2 := (turn s Hs C cl fp).2
      refine t2 B0 B σ2 L1 H1' _ j2 fun M0 M g3 => iteF ⟨M0, acc, gg.trans g3, ?_, g3.fr _ _ hDn' trivial hD0', ?_, ?_⟩
      · rw [eT]; simpa using g3.sB _ _ hDn'
      · rw [eT]; simpa using hla
      · rw [eT]; simpa using DRs.mono (g2.trans g3).s0 _ _ racc
    | some z =>
      intro s Hs C cl fp
      refine (turn s Hs C cl fp).2.1 B0 B σ2 L1 H1' _ j2 fun M0 M g3 => iteT fun s Hs C cl fp => ?_
      refine (turn s Hs C cl fp).2.2.1 B0 B σ2 M0 M _ (j2.grow g3) fun y N0 N g4 ry => fun s Hs C cl fp => ?_
      refine (turn s Hs C cl fp).2.2.2 B0 B σ2 N0 N _ ((j2.grow g3).grow g4) fun v P0 P g5 rv => ?_
      have g345 := (g3.trans g4).trans g5
      have h5 := g345.sB _ _ hDn'
      have h50 : P0 Dn = none := g345.fr _ _ hDn' trivial hD0'
      have gl := gg.trans g345
      have hle : (((ys.take i).filterMap id).map (·.1)).length = acc.length := by rw [List.length_map, hla]
      have hnin : z.1 ∉ ((ys.take i).filterMap id).map (·.1) := by
        have h1 : (((ys.take (i + 1)).filterMap id).map (·.1)).Nodup := by
          refine nd.sublist ?_
          exact ((List.take_sublist ..).filterMap _).map _
        rw [eT] at h1
        simp only [id, Option.toList, List.map_append, List.map_cons, List.map_nil] at h1
        rw [List.nodup_append] at h1
        exact fun q => h1.2.2 _ q z.1 (by simp) rfl
      have eT2 : (ys.take (i + 1)).filterMap id = (ys.take i).filterMap id ++ [z] := by rw [eT]; rfl
      refine ⟨_, z.1, kD_val ry, h5, ?_, P0, acc ++ [v], ⟨gl.s0, fun b u e => upd_keep (gl.sh b u e) (ne_of_none e h50), fun b u e => upd_keep (gl.sB b u e) (ne_of_none e hD), gl.fr⟩, ?_, h50, ?_, ?_⟩
      · rw [List.length_zip, hle, Nat.min_self, hla]
        have h1 := filterMap_len id ys i
        omega
      · rw [upd_same, putK_zip hle hnin, eT2, List.map_append]
        rfl
      · rw [List.length_append, hla, eT2, List.length_append]; rfl
      · rw [eT2, List.map_append]
        exact DRs.app (DRs.mono (g2.trans g345).s0 _ _ racc) (DRs.one rv)
  · rintro H1 ⟨L0, acc, g1, hDn, hD0, hla, racc⟩
    rw [List.take_of_length_le (Nat.le_of_eq hlen)] at hDn hla racc
    exact k Dn _ L0 H1 (g0.trans g1) hDn hD0 (g0.sB.free hD) ⟨acc, rfl, by rw [List.length_map, hla], racc⟩
/-- {k: v for a, b in x.items() if t}, x a shared dict -/
theorem eo_dcItK (i : Nat) {x : Str} {p1 apos ipos : Pos} {ks : List Key} {es : List D} {elts : List Expr} {kk : Nat} {tpos : Pos} (own : List (Str × Nat)) (hc : X.calm = true) (hN : X.N.Nodup) (ok : BlkOk X.N X.env.scope scope own) (hρ : ρ[i]? = some (.sh (.dk ks es))) (ys : List (Option (Key × D))) (hlen : ys.length = ks.length) (nd : ((ys.filterMap id).map (·.1)).Nodup)
    (turn : ∀ (n : Nat) d y, (itK ks es)[n]? = some d → ys[n]? = some y → TurnDF X ρ scope (own.map (·.2)) (.Tuple elts kk tpos) kx vx ifs d y) (hl : ks.length ≤ sizeLine)
    (hNi : X.N[i]? = some x := by rfl) (hv : Vis X.env.scope x := by first | exact Or.inl rfl | exact Or.inr (Or.inl rfl) | exact Or.inr (Or.inr rfl)) (hd : (x == ("__debug__" : Str)) = false := by decide) (hcd : (x == ("__classdict__" : Str)) = false := by decide)
    (hbase : attributeBase (.Name x p1) "items" X.env (eval (.Name x p1) X.env) = eval (.Name x p1) X.env := by rfl) (hline : (apos.endLine == ipos.line) = true := by rfl)
    (hs : ∀ z, foldedSetIterable (.Call (.Attribute (.Name x p1) "items" apos) [] [] ipos) X.env z = pure z := by intro _; rfl) : EO X ρ (.DictComp kx vx [⟨.Tuple elts kk tpos, .Call (.Attribute (.Name x p1) "items" apos) [] [] ipos, ifs, 0⟩] scope cpos) (.dk ((ys.filterMap id).map (·.1)) ((ys.filterMap id).map (·.2))) := fun B0 B σ H0 H Q j k => by
  obtain ⟨ov, e1, v, rfl, r0⟩ := j.get hρ
  obtain ⟨a, vs, rfl, h1, hkl, hres⟩ := r0
  have hds : ks.length = es.length := by rw [hkl, DRs.length hres]
  have run := pe_dc (X := X) (tg := .Tuple elts kk tpos) (iter := .Call (.Attribute (.Name x p1) "items" apos) [] [] ipos) (kx := kx) (vx := vx) (ifs := ifs) (scope := scope) (own := own) (pos := cpos) hc hN pi_star ok (g := GB X scope (.Tuple elts kk tpos)) (tt := TB X scope ifs) (tk := EB X scope kx) (tv := EB X scope vx)
    (fun s H C cl fp => ⟨fun pins s1 σ1 H1 v u Q1 I r h => (pg_star (tg := .Tuple elts kk tpos)).run pins s1 σ1 H1 v u Q1 I r (h s H C cl fp)⟩)
    (fun s H C cl fp => ⟨fun pins s1 σ1 H1 Q1 I h => by obtain ⟨t, h1, h2⟩ := h s H C cl fp; exact h1.run pins s1 σ1 H1 Q1 I h2⟩)
    (fun s H C cl fp => ⟨fun pins s1 σ1 H1 Q1 I h => (pe_star (e := kx)).run pins s1 σ1 H1 Q1 I (h s H C cl fp)⟩)
    (fun s H C cl fp => ⟨fun pins s1 σ1 H1 Q1 I h => (pe_star (e := vx)).run pins s1 σ1 H1 Q1 I (h s H C cl fp)⟩) hs
  rcases h1 with h1 | ⟨od, h1⟩
  · have hH := j.same _ _ h1
    refine RE.of (pe_lock run) ⟨a, _, hH, trivial, fun od => ?_⟩
    refine dc_readF (ds := itK ks es) (fun R hR => ⟨_, pi_items (pe_var hNi hv hd hcd) hbase hline, .ref a, e1, a, od, _, rfl, upd_same, hR _ _ _ (JH.refl (same_lock j.same)) (dw_itemsK upd_same hkl ((fz_lockK h1).drs _ _ hres))⟩) ys (by rw [itK_len hds]; exact hlen) nd turn (by rw [itK_len hds]; exact hl) (j.lockK h1) fun b o L0 L g e2 e3 e4 r => ?_
    obtain ⟨z1, z2, z3⟩ := JH.unlockEK h1 hH g
    have nb : b ≠ a := fun z => by rw [z, upd_same] at e4; cases e4
    rw [upd_ne nb] at e4
    exact ⟨z2, k b o _ _ z3 (by rw [upd_ne nb]; exact e2) (by rw [upd_ne nb]; exact e3) e4 ((fz_unlockK z1).oc r)⟩
  · have hH := j.same _ _ h1
    refine RE.of run ?_
    exact dc_readF (ds := itK ks es) (fun R hR => ⟨_, pi_items (pe_var hNi hv hd hcd) hbase hline, .ref a, e1, a, od, _, rfl, hH, hR _ _ _ (JH.refl j.same) (dw_itemsK h1 hkl hres)⟩) ys (by rw [itK_len hds]; exact hlen) nd turn (by rw [itK_len hds]; exact hl) j fun b o L0 L g e2 e3 e4 r => k b o L0 L g e2 e3 e4 r
/-- for a, b in x.items(), x a shared dict -/
theorem ws_forItK (i : Nat) {x : Str} {p1 apos ipos : Pos} {ks : List Key} {es : List D} {elts : List Expr} {kk : Nat} {tpos : Pos} {body : List Stmt} (hc : X.calm = true) (hρ : ρ[i]? = some (.sh (.dk ks es))) (hl : ks.length = es.length) (I : Nat → En → Prop) (h0 : I 0 ρ)
    (hs : ∀ n d ρ', (itK ks es)[n]? = some d → I n ρ' → ∃ is ρ'', DG X is (.Tuple elts kk tpos) d ρ' ρ'' ∧ WSs X body ρ'' (fun o => match o with | .nx r => I (n + 1) r | .ct r => I (n + 1) r | .bk r => Φ (.nx r) | .rt v => Φ (.rt v) | .ro c => Φ (.ro c) | .rc v cs => False)) (hd : ∀ ρ', I ks.length ρ' → Φ (.nx ρ'))
    (hNi : X.N[i]? = some x := by rfl) (hv : Vis X.env.scope x := by first | exact Or.inl rfl | exact Or.inr (Or.inl rfl) | exact Or.inr (Or.inr rfl)) (hdb : (x == ("__debug__" : Str)) = false := by decide) (hcd : (x == ("__classdict__" : Str)) = false := by decide)
    (hbase : attributeBase (.Name x p1) "items" X.env (eval (.Name x p1) X.env) = eval (.Name x p1) X.env := by rfl) (hline : (apos.endLine == ipos.line) = true := by rfl)
    (hp : PassesOwn (model X.prog X.w) X.A X.env X.xe := by exact PassesOwn.never) (hf : ∀ z, foldedSetIterable (.Call (.Attribute (.Name x p1) "items" apos) [] [] ipos) X.env z = pure z := by intro _; rfl) : WS X (.For (.Tuple elts kk tpos) (.Call (.Attribute (.Name x p1) "items" apos) [] [] ipos) body [] pos) ρ Φ := fun B0 B σ H0 H Dn j k => by
  obtain ⟨ov, e1, v, rfl, r0⟩ := j.get hρ
  obtain ⟨a, vs, rfl, h1, hkl, hres⟩ := r0
  have hlen : (itK ks es).length = ks.length := itK_len hl
  rcases h1 with h1 | ⟨od, h1⟩
  · have hH := j.same _ _ h1
    refine ⟨_, ps_lock (ps_for hp hc (pi_items (pe_var hNi hv hdb hcd) hbase hline) pg_star pss_star hf), a, _, hH, trivial, fun od => ⟨.ref a, e1, a, od, _, rfl, upd_same, ?_⟩⟩
    obtain ⟨GG, Y, w, hG, hY⟩ := dw_itemsK (K := X.K) (od := od) (H0 := upd H0 a (.frz od (.dK (ks.zip vs)))) upd_same hkl ((fz_lockK h1).drs _ _ hres)
    rw [hlen] at w
    refine for_it w (fun n σ' H1 => ∃ ρ' L0, I n ρ' ∧ J X.K (upd H0 a (.frz od (.dK (ks.zip vs)))) (baseF B H0 a (.frz od (.dK (ks.zip vs)))) σ' L0 H1 ρ') ⟨ρ, _, h0, j.lockK h1⟩ (fun n σ' H1 _ ⟨ρ', L0, _, j1⟩ => hG L0 H1 j1.hp.s0 j1.hp.sh) ?_ ?_
    · rintro n v σ1 H1 H1' hn ⟨ρ1, L0, hI, j1⟩ y
      obtain ⟨d, hd⟩ : ∃ d, (itK ks es)[n]? = some d := ⟨(itK ks es)[n]'(by omega), by simp [show n < (itK ks es).length by omega]⟩
      obtain ⟨L1, g2, rx⟩ := hY n L0 H1 v H1' d hd j1.hp.s0 j1.hp.sh y
      obtain ⟨is, ρ2, hg, hb⟩ := hs n d ρ1 hd hI
      refine hg _ _ σ1 L1 H1' v _ (j1.grow g2) rx fun σ2 j2 _ => ?_
      refine hb _ _ σ2 L1 H1' _ j2 fun o ho => ?_
      cases o with
      | nx r => exact fun σ3 M0 M j3 => ⟨r, M0, ho, j3⟩
      | ct r => exact fun σ3 M0 M j3 => ⟨r, M0, ho, j3⟩
      | bk r => exact fun σ3 M0 M j3 => ⟨(j.hp.unlockK h1 j3.hp).2.1, k _ ho σ3 _ _ (J.unlockK j.hp h1 j3)⟩
      | rt d =>
        exact fun v' M0 M g r => by
          obtain ⟨z1, z2, z3⟩ := j.hp.unlockK h1 g
          exact ⟨z2, k _ ho v' _ _ z3 ((fz_unlockK z1).dr _ _ r)⟩
      | ro c =>
        exact fun b o M0 M g f1 f2 f3 r => by
          obtain ⟨z1, z2, z3⟩ := j.hp.unlockK h1 g
          obtain ⟨n1, n2⟩ := base_none f3
          exact ⟨z2, k _ ho b o _ _ z3 (by rw [upd_ne n1]; exact f1) (by rw [upd_ne n1]; exact f2) n2 ((fz_unlockK z1).oc r)⟩
      | rc v cs => exact ho.elim
    · rintro σ1 H1 ⟨ρ1, L0, hI, j1⟩
      exact ⟨(j.hp.unlockK h1 j1.hp).2.1, k _ (hd ρ1 hI) σ1 _ _ (J.unlockK j.hp h1 j1)⟩
  · have hH := j.same _ _ h1
    refine ⟨_, ps_for hp hc (pi_items (pe_var hNi hv hdb hcd) hbase hline) pg_star pss_star hf, .ref a, e1, a, od, _, rfl, hH, ?_⟩
    obtain ⟨GG, Y, w, hG, hY⟩ := dw_itemsK (K := X.K) (od := od) (H0 := H0) h1 hkl hres
    rw [hlen] at w
    refine for_it w (fun n σ' H1 => ∃ ρ' L0, I n ρ' ∧ J X.K H0 (baseF B H0 a (.frz od (.dK (ks.zip vs)))) σ' L0 H1 ρ') ⟨ρ, _, h0, j.baseS h1⟩ (fun n σ' H1 _ ⟨ρ', L0, _, j1⟩ => hG L0 H1 j1.hp.s0 j1.hp.sh) ?_ ?_
    · rintro n v σ1 H1 H1' hn ⟨ρ1, L0, hI, j1⟩ y
      obtain ⟨d, hd⟩ : ∃ d, (itK ks es)[n]? = some d := ⟨(itK ks es)[n]'(by omega), by simp [show n < (itK ks es).length by omega]⟩
      obtain ⟨L1, g2, rx⟩ := hY n L0 H1 v H1' d hd j1.hp.s0 j1.hp.sh y
      obtain ⟨is, ρ2, hg, hb⟩ := hs n d ρ1 hd hI
      refine hg _ _ σ1 L1 H1' v _ (j1.grow g2) rx fun σ2 j2 _ => ?_
      refine hb _ _ σ2 L1 H1' _ j2 fun o ho => ?_
      cases o with
      | nx r => exact fun σ3 M0 M j3 => ⟨r, M0, ho, j3⟩
      | ct r => exact fun σ3 M0 M j3 => ⟨r, M0, ho, j3⟩
      | bk r => exact fun σ3 M0 M j3 => k _ ho σ3 M0 M (J.unbaseS j.hp h1 j3)
      | rt d => exact fun v' M0 M g r => k _ ho v' M0 M (j.hp.unbaseS h1 g) r
      | ro c => exact fun b o M0 M g f1 f2 f3 r => k _ ho b o M0 M (j.hp.unbaseS h1 g) f1 f2 (base_none f3).2 r
      | rc v cs => exact ho.elim
    · rintro σ1 H1 ⟨ρ1, L0, hI, j1⟩
      exact k _ (hd ρ1 hI) σ1 L0 H1 (J.unbaseS j.hp h1 j1)
theorem ws_forItKU (i : Nat) {x : Str} {p1 apos ipos : Pos} {ks : List Key} {es : List D} {U : Type} {elts : List Expr} {kk : Nat} {tpos : Pos} {body : List Stmt} (hc : X.calm = true) (hρ : ρ[i]? = some (.sh (.dk ks es))) (hl : ks.length = es.length) (G : Nat → U → List (Nat × Sl)) (V : En → U) (P : Nat → Prop) (hV : upds ρ (G 0 (V ρ)) = ρ) (h0 : P 0)
    (hs : ∀ n d u, (itK ks es)[n]? = some d → P n → ∃ is ρ'', DG X is (.Tuple elts kk tpos) d (upds ρ (G n u)) ρ'' ∧ WSs X body ρ'' (fun o => match o with | .nx r => upds ρ (G (n + 1) (V r)) = r ∧ P (n + 1) | .ct r => upds ρ (G (n + 1) (V r)) = r ∧ P (n + 1) | .bk r => Φ (.nx r) | .rt v => Φ (.rt v) | .ro c => Φ (.ro c) | .rc v cs => False))
    (hd : ∀ u, P ks.length → Φ (.nx (upds ρ (G ks.length u))))
    (hNi : X.N[i]? = some x := by rfl) (hv : Vis X.env.scope x := by first | exact Or.inl rfl | exact Or.inr (Or.inl rfl) | exact Or.inr (Or.inr rfl)) (hdb : (x == ("__debug__" : Str)) = false := by decide) (hcd : (x == ("__classdict__" : Str)) = false := by decide)
    (hbase : attributeBase (.Name x p1) "items" X.env (eval (.Name x p1) X.env) = eval (.Name x p1) X.env := by rfl) (hline : (apos.endLine == ipos.line) = true := by rfl)
    (hp : PassesOwn (model X.prog X.w) X.A X.env X.xe := by exact PassesOwn.never) (hf : ∀ z, foldedSetIterable (.Call (.Attribute (.Name x p1) "items" apos) [] [] ipos) X.env z = pure z := by intro _; rfl) : WS X (.For (.Tuple elts kk tpos) (.Call (.Attribute (.Name x p1) "items" apos) [] [] ipos) body [] pos) ρ Φ := by
  refine ws_forItK i hc hρ hl (fun n r => (∃ u, upds ρ (G n u) = r) ∧ P n) ⟨⟨_, hV⟩, h0⟩ (fun n q r hx hI => ?_) (fun r hI => ?_) hNi hv hdb hcd hbase hline hp hf
  · obtain ⟨⟨u, rfl⟩, p⟩ := hI
    obtain ⟨is, r2, g1, g2⟩ := hs n q u hx p
    refine ⟨is, r2, g1, ws_mono g2 fun o ho => ?_⟩
    cases o with
    | nx r => exact ⟨⟨_, ho.1⟩, ho.2⟩
    | ct r => exact ⟨⟨_, ho.1⟩, ho.2⟩
    | bk r => exact ho
    | rt v => exact ho
    | ro c => exact ho
    | rc v cs => exact ho.elim
  · obtain ⟨⟨u, rfl⟩, p⟩ := hI
    exact hd u p
end
/-- a list of its own is lent for a new dict -/
theorem eo_lendK {X : Cx} {ρ : En} {e : Expr} (i : Nat) {da : List D} {ks : List Key} {zs : List D} (hi : ρ[i]? = some (.ow (.lst da))) (hz : noLs zs = true) (h : EO X (ρ.set i (.sh (.lst da))) e (.dk ks zs)) : EO X ρ e (.dk ks zs) := fun B0 B σ H0 H Q j kk => by
  obtain ⟨a, va, a0, j'⟩ := j.lendA hi
  refine h B0 B σ _ H Q j' fun p o L0 L g e1 e2 e3 r => ?_
  have la : L0 a = some (.lst va) := g.s0 _ _ upd_same
  refine kk p o (er L0 a) L ⟨fun x u q => ?_, er_sub.trans g.sh, g.sB, fun x u q nt q' => ?_⟩ e1 ?_ e3 ?_
  · have n1 : x ≠ a := fun z => by subst z; rw [a0] at q; cases q
    rw [er_ne n1]
    exact g.s0 _ _ (by rw [upd_ne n1]; exact q)
  · by_cases xa : x = a
    · subst xa; exact er_same
    · rw [er_ne xa]
      exact g.fr x u q nt (by rw [upd_ne xa]; exact q')
  · by_cases xa : p = a
    · subst xa; exact er_same
    · rw [er_ne xa]; exact e2
  · obtain ⟨vs, rfl, hl, hv⟩ := r
    exact ⟨vs, rfl, hl, er_drs la zs vs hz hv⟩
end DL
namespace DL
open PySem PySem.Spec PyProof.Rows L2
section
variable {X : Cx} {ρ : En} {elt tg iter tg1 iter1 : Expr} {scope : Scope} {cpos pos : Pos} {α β : Type}
/-- [f x y for x in xs for y in ys x], the walk of xs as it is given -/
theorem lc2_read {B0 B : Hp} {σ : L2.St} {H0 H : Hp} {Q : VK} (own : List (Str × Nat)) (vs1 : List Nat) (xs : List α) (enc : α → D) (ys : α → List β) (enc1 : β → D) (f : α → β → D) (hno : noOw ρ = true) (hi : ∀ R, (∀ Jt H0' H', JH H0 H H0' H' → DWalk X.K Jt H0' (xs.map enc) → R Jt H') → RI X tg iter σ H R)
    (turn : ∀ x ∈ xs, ∃ ρ1 ds1, noOw ρ1 = true ∧ ρ1.length = ρ.length ∧ ds1 = (ys x).map enc1 ∧ ∀ (s : Shared) (H : Hp) (C : Addr) (cl : List (Str × Addr)) (fp : List Addr), DG (X.blk s H scope (compEnvC scope cl C X.env) fp) (own.map (·.2)) tg (enc x) (wipeE ρ (own.map (·.2))) ρ1 ∧
      ID (X.blk s H scope (compEnvC scope cl C X.env) fp) ρ1 tg1 iter1 ds1 ∧ ∀ y ∈ ys x, ∃ ρ2, ρ2.length = ρ.length ∧ ∀ (s : Shared) (H : Hp) (C : Addr) (cl : List (Str × Addr)) (fp : List Addr), DG (X.blk s H scope (compEnvC scope cl C X.env) fp) vs1 tg1 (enc1 y) (wipeE ρ1 vs1) ρ2 ∧ ED (X.blk s H scope (compEnvC scope cl C X.env) fp) ρ2 elt (f x y))
    (hl : (xs.flatMap fun x => (ys x).map (f x)).length ≤ sizeLine) (j : J X.K B0 B σ H0 H ρ)
    (k : ∀ a o H0' H', JH H0 H H0' H' → H' a = some o → H0' a = none → H a = none → OCR X.K H0' (.lst (xs.flatMap fun x => (ys x).map (f x))) o → Q (.ref a) H') :
    (tLc2 (RI X tg iter) (GB X scope tg) (TB X scope []) (IB X scope tg1 iter1) (GB X scope tg1) (TB X scope []) (EB X scope elt) (own.map (·.2)) vs1) σ H Q := by
  refine hi _ fun Jt G0 G g0 ⟨GG, Y, w, hG, hY⟩ => fun Dn hD => ?_
  have j0 := j.grow g0
  obtain ⟨r, hr⟩ : ∃ r : α → List D, r = fun x => (ys x).map (f x) := ⟨_, rfl⟩
  have hr' : ∀ x, (ys x).map (f x) = r x := fun x => by rw [hr]
  have hlen : (xs.map enc).length = xs.length := List.length_map _
  let Pv : Nat → Hp → Prop := fun i H1 => ∃ L0 acc, JH G0 G L0 H1 ∧ H1 Dn = some (.lst acc) ∧ L0 Dn = none ∧ DRs X.K L0 ((xs.take i).flatMap r) acc
  refine ⟨fun i m H1 => m = xs.length - i ∧ i ≤ xs.length ∧ Pv i H1, ⟨xs.length, by simp, Nat.zero_le _, G0, [], JH.own g0.sh hD, upd_same, g0.sh.free hD, rfl⟩, ?_⟩
  rintro i m H1 ⟨rfl, hi1, L0, acc, g1, hDn, hD0, racc⟩
  by_cases hlt : i < xs.length
  · refine .inr ⟨w.goes i H1 (by omega) (hG L0 H1 g1.s0 g1.sh), Pv (i + 1), fun H' p' => ⟨xs.length - (i + 1), by omega, rfl, hlt, p'⟩, fun x H1' hy => ?_⟩
    obtain ⟨xv, hxv⟩ : ∃ x, xs[i]? = some x := ⟨xs[i], by simp [hlt]⟩
    obtain ⟨L1, g2, rx⟩ := hY i L0 H1 x H1' (enc xv) (by rw [List.getElem?_map, hxv]; rfl) g1.s0 g1.sh (w.yields i H1 x H1' (by omega) (hG L0 H1 g1.s0 g1.sh) hy)
    obtain ⟨ρ1, ds1, no1, len1, e1, T⟩ := turn xv (List.mem_of_getElem? hxv)
    subst e1
    have j1 := ((j0.grow g1).grow g2).wipe (own.map (·.2))
    have gg := g1.trans g2
    intro s Hs C cl fp
    refine (T s Hs C cl fp).1 B0 B _ L1 H1' x _ j1 rx fun σ2 j2 off => ⟨wipe_back (by rw [j2.len, len1, ← wipeE_length ρ (own.map (·.2)), ← j1.len, wipe_length]) off, ?_⟩
    intro s Hs C cl fp
    refine rts_nil ?_
    simp only [if_true]
    intro s Hs C cl fp
    refine (T s Hs C cl fp).2.1 B0 B σ2 L1 H1' _ j2 fun J1 M0 M g3 ⟨GG1, Y1, w1, hG1, hY1⟩ => ?_
    have hDnM : M Dn = some (.lst acc) := g3.sB _ _ (g2.sB _ _ hDn)
    have hDM0 : M0 Dn = none := g3.fr _ _ (g2.sB _ _ hDn) trivial (g2.fr _ _ hDn trivial hD0)
    have n1 : ((ys xv).map enc1).length = (ys xv).length := List.length_map _
    let Pv1 : Nat → Hp → Prop := fun jx H2 => ∃ L2 acc, JH G0 G L2 H2 ∧ Same M0 L2 ∧ H2 Dn = some (.lst acc) ∧ L2 Dn = none ∧ DRs X.K L2 ((xs.take i).flatMap r ++ ((ys xv).take jx).map (f xv)) acc
    refine ⟨fun jx m H2 => m = (ys xv).length - jx ∧ jx ≤ (ys xv).length ∧ Pv1 jx H2, ⟨(ys xv).length, by simp, Nat.zero_le _, M0, acc, gg.trans g3, Same.refl _, hDnM, hDM0, by simpa using DRs.mono (g2.trans g3).s0 _ _ racc⟩, ?_⟩
    rintro jx m H2 ⟨rfl, hj1, L2, acc2, g4, s4, hDn2, hD02, racc2⟩
    by_cases hjlt : jx < (ys xv).length
    · refine .inr ⟨w1.goes jx H2 (by omega) (hG1 L2 H2 s4 g4.sh), Pv1 (jx + 1), fun H' p' => ⟨(ys xv).length - (jx + 1), by omega, rfl, hjlt, p'⟩, fun y H2' hy => ?_⟩
      obtain ⟨yv, hyv⟩ : ∃ y, (ys xv)[jx]? = some y := ⟨(ys xv)[jx], by simp [hjlt]⟩
      obtain ⟨L3, g5, ry⟩ := hY1 jx L2 H2 y H2' (enc1 yv) (by rw [List.getElem?_map, hyv]; rfl) s4 g4.sh (w1.yields jx H2 y H2' (by omega) (hG1 L2 H2 s4 g4.sh) hy)
      obtain ⟨ρ2, len2, T2⟩ := (T s Hs C cl fp).2.2 yv (List.mem_of_getElem? hyv)
      have g45 := g4.trans g5
      have j3 := (j2.reseat no1 (g3.s0.trans (s4.trans g5.s0)) (j0.hp.trans g45)).wipe vs1
      intro s Hs C cl fp
      refine (T2 s Hs C cl fp).1 B0 B _ L3 H2' y _ j3 ry fun σ3 j4 off => ⟨wipe_back (by rw [j4.len, len2, ← len1, ← wipeE_length ρ1 vs1, ← j3.len, wipe_length]) off, ?_⟩
      intro s Hs C cl fp
      refine rts_nil ?_
      simp only [if_true]
      intro s Hs C cl fp
      refine (T2 s Hs C cl fp).2 B0 B σ3 L3 H2' _ j4 fun v N0 N g6 rv => ?_
      have g56 := g5.trans g6
      have h4 : N Dn = some (.lst acc2) := g56.sB _ _ hDn2
      have h40 : N0 Dn = none := g56.fr _ _ hDn2 trivial hD02
      have gl := g4.trans g56
      have hroom : acc2.length < sizeLine := by
        have q1 := DRs.length racc2
        have q2 := flat_room r hxv (j := jx) (by rw [hr]; simpa using hjlt)
        simp only [List.length_append, List.length_map, List.length_take] at q1
        rw [hr] at q1 q2
        omega
      refine ⟨acc2, h4, hroom, N0, acc2 ++ [v], ⟨gl.s0, fun b u e => upd_keep (gl.sh b u e) (ne_of_none e h40), fun b u e => upd_keep (gl.sB b u e) (ne_of_none e hD), gl.fr⟩, s4.trans g56.s0, upd_same, h40, ?_⟩
      rw [List.take_add_one, hyv, List.map_append, ← List.append_assoc]
      exact DRs.app (DRs.mono g56.s0 _ _ racc2) (DRs.one rv)
    · have e : jx = (ys xv).length := by omega
      subst e
      have st := w1.stops H2 (hG1 L2 H2 s4 g4.sh)
      rw [n1] at st
      refine .inl ⟨st, L2, acc2, g4, hDn2, hD02, ?_⟩
      · rw [flat_take r hxv, ← hr' xv]
        rw [List.take_length] at racc2
        exact racc2
  · have e : i = xs.length := by omega
    subst e
    refine .inl ⟨?_, ?_⟩
    · have := w.stops H1 (hG L0 H1 g1.s0 g1.sh)
      rwa [hlen] at this
    · rw [List.take_length] at racc
      exact k Dn _ L0 H1 (g0.trans g1) hDn hD0 (g0.sB.free hD) ⟨acc, rfl, by rw [← hr]; exact racc⟩
/-- [f x y for x in d for y in ys x], d a shared dict -/
theorem eo_lc2K (i : Nat) {x : Str} {p1 : Pos} {ks : List Key} {es : List D} (own : List (Str × Nat)) (vs1 : List Nat) (ys : Key → List β) (enc1 : β → D) (f : Key → β → D) (hc : X.calm = true) (hN : X.N.Nodup) (ok : BlkOk X.N X.env.scope scope own) (hv : ∀ i ∈ vs1, i ∈ own.map (·.2)) (hno : noOw ρ = true) (hρ : ρ[i]? = some (.sh (.dk ks es)))
    (turn : ∀ x ∈ ks, ∃ ρ1 ds1, noOw ρ1 = true ∧ ρ1.length = ρ.length ∧ ds1 = (ys x).map enc1 ∧ ∀ (s : Shared) (H : Hp) (C : Addr) (cl : List (Str × Addr)) (fp : List Addr), DG (X.blk s H scope (compEnvC scope cl C X.env) fp) (own.map (·.2)) tg (kD x) (wipeE ρ (own.map (·.2))) ρ1 ∧
      ID (X.blk s H scope (compEnvC scope cl C X.env) fp) ρ1 tg1 iter1 ds1 ∧ ∀ y ∈ ys x, ∃ ρ2, ρ2.length = ρ.length ∧ ∀ (s : Shared) (H : Hp) (C : Addr) (cl : List (Str × Addr)) (fp : List Addr), DG (X.blk s H scope (compEnvC scope cl C X.env) fp) vs1 tg1 (enc1 y) (wipeE ρ1 vs1) ρ2 ∧ ED (X.blk s H scope (compEnvC scope cl C X.env) fp) ρ2 elt (f x y))
    (hl : (ks.flatMap fun x => (ys x).map (f x)).length ≤ sizeLine) (hNi : X.N[i]? = some x := by rfl) (hvi : Vis X.env.scope x := by first | exact Or.inl rfl | exact Or.inr (Or.inl rfl) | exact Or.inr (Or.inr rfl)) (hd : (x == ("__debug__" : Str)) = false := by decide) (hcd : (x == ("__classdict__" : Str)) = false := by decide)
    (hs : ∀ z, foldedSetIterable (.Name x p1) X.env z = pure z := by intro _; rfl) (hs1 : ∀ env x, foldedSetIterable iter1 env x = pure x := by intro _ _; rfl) :
    EO X ρ (.ListComp elt [⟨tg, .Name x p1, [], 0⟩, ⟨tg1, iter1, [], 0⟩] scope cpos) (.lst (ks.flatMap fun x => (ys x).map (f x))) := fun B0 B σ H0 H Q j k => by
  obtain ⟨ov, e1, v, rfl, r0⟩ := j.get hρ
  obtain ⟨a, vs, rfl, h1, hkl, hres⟩ := r0
  have run := pe_lc2 (X := X) (tg := tg) (iter := .Name x p1) (elt := elt) (ifs := []) (ifs1 := []) (tg1 := tg1) (iter1 := iter1) (scope := scope) (own := own) (pos := cpos) (vs1 := vs1) hc hN pi_star ok hv (g := GB X scope tg) (tt := TB X scope []) (wi1 := IB X scope tg1 iter1) (g1 := GB X scope tg1) (tt1 := TB X scope []) (te := EB X scope elt)
    (fun s H C cl fp => ⟨fun pins s1 σ1 H1 v u Q1 I r h => (pg_star (tg := tg)).run pins s1 σ1 H1 v u Q1 I r (h s H C cl fp)⟩)
    (fun s H C cl fp => ⟨fun pins s1 σ1 H1 Q1 I h => by obtain ⟨t, h1, h2⟩ := h s H C cl fp; exact h1.run pins s1 σ1 H1 Q1 I h2⟩)
    (fun s H C cl fp => ⟨fun pins s1 σ1 H1 R I h => (pi_star (tg := tg1) (it := iter1)).run pins s1 σ1 H1 R I (h s H C cl fp)⟩)
    (fun s H C cl fp => ⟨fun pins s1 σ1 H1 v u Q1 I r h => (pg_star (tg := tg1)).run pins s1 σ1 H1 v u Q1 I r (h s H C cl fp)⟩)
    (fun s H C cl fp => ⟨fun pins s1 σ1 H1 Q1 I h => by obtain ⟨t, h1, h2⟩ := h s H C cl fp; exact h1.run pins s1 σ1 H1 Q1 I h2⟩)
    (fun s H C cl fp => ⟨fun pins s1 σ1 H1 Q1 I h => (pe_star (e := elt)).run pins s1 σ1 H1 Q1 I (h s H C cl fp)⟩) hs hs1
  have dw : ∀ {G0 : Hp} {od : Obj}, G0 a = some (.frz od (.dK (ks.zip vs))) → DWalk X.K (Itk a od (ks.zip vs)) G0 (ks.map kD) := fun {G0 od} hG => by
    have hz : (ks.zip vs).length = (ks.map kD).length := by rw [List.length_zip, List.length_map]; omega
    refine ⟨_, _, (by rw [← hz]; exact walk_keys), fun L0 L s1 s2 => s2 _ _ (s1 _ _ hG), fun i L0 L x L' d hd s1 s2 y => ?_⟩
    obtain ⟨rfl, k, v, h1, rfl⟩ := y
    obtain ⟨h2, h3⟩ := List.getElem?_zip_eq_some.mp h1
    rw [List.getElem?_map, h2] at hd
    cases hd
    exact ⟨L0, JH.refl s2, kD_dr k⟩
  rcases h1 with h1 | ⟨od, h1⟩
  · have hH := j.same _ _ h1
    refine RE.of (pe_lock run) ⟨a, _, hH, trivial, fun od => ?_⟩
    refine lc2_read own vs1 ks kD ys enc1 f hno (fun R hR => ⟨_, pi_keys (pe_var hNi hvi hd hcd), .ref a, e1, a, od, rfl, .inl ⟨ks.zip vs, upd_same, hR _ _ _ (JH.refl (same_lock j.same)) (dw upd_same)⟩⟩) turn hl (j.lockK h1) fun b o L0 L g e2 e3 e4 r => ?_
    obtain ⟨z1, z2, z3⟩ := JH.unlockEK h1 hH g
    have nb : b ≠ a := fun z => by rw [z, upd_same] at e4; cases e4
    rw [upd_ne nb] at e4
    exact ⟨z2, k b o _ _ z3 (by rw [upd_ne nb]; exact e2) (by rw [upd_ne nb]; exact e3) e4 ((fz_unlockK z1).oc r)⟩
  · have hH := j.same _ _ h1
    refine RE.of run ?_
    exact lc2_read own vs1 ks kD ys enc1 f hno (fun R hR => ⟨_, pi_keys (pe_var hNi hvi hd hcd), .ref a, e1, a, od, rfl, .inl ⟨ks.zip vs, hH, hR _ _ _ (JH.refl j.same) (dw h1)⟩⟩) turn hl j fun b o L0 L g e2 e3 e4 r => k b o L0 L g e2 e3 e4 r
end
end DL
namespace DL
open PySem PySem.Spec PyProof.Rows L2
theorem nodup_inj {α β : Type} {f : α → β} (hf : ∀ a b, f a = f b → a = b) : ∀ {l : List α}, l.Nodup → (l.map f).Nodup
  | [], _ => by simp
  | a :: l, h => by
    have h := List.nodup_cons.mp h
    rw [List.map_cons, List.nodup_cons]
    refine ⟨fun m => ?_, nodup_inj hf h.2⟩
    obtain ⟨b, hb, e⟩ := List.mem_map.mp m
    exact h.1 (hf _ _ e ▸ hb)
theorem itK_get {C : Fx} {i : Nat} {d : D} (h : (itK (fxK C) (C.map fun p => D.str p.2))[i]? = some d) : ∃ p, C[i]? = some p ∧ d = .tup [.int p.1, .str p.2] := by
  have e : itK (fxK C) (C.map fun p => D.str p.2) = C.map fun p => D.tup [.int p.1, .str p.2] := by
    unfold itK fxK
    rw [List.zip_map', List.map_map]
    rfl
  rw [e, List.getElem?_map] at h
  cases hp : C[i]? with
  | none => rw [hp] at h; cases h
  | some p => rw [hp] at h; cases h; exact ⟨p, rfl, rfl⟩
section
variable {X : Cx} {ρ : En} {kx vx : Expr} {ifs : List Expr} {scope : Scope} {cpos : Pos}
theorem turn_ifDF {tg : Expr} {vs : List Nat} {d : D} {y : Key × D} {p : Bool} (h1 : p = true → TurnDF X ρ scope vs tg kx vx ifs d (some y)) (h2 : p = false → TurnDF X ρ scope vs tg kx vx ifs d none) :
    TurnDF X ρ scope vs tg kx vx ifs d (if p = true then some y else none) := by
  cases p with
  | true => exact h1 rfl
  | false => exact h2 rfl
theorem fmI {α β : Type} (p : α → Bool) (f : α → β) : ∀ xs : List α, (xs.map fun x => if p x = true then some (f x) else none).filterMap id = (xs.filter p).map f
  | [] => rfl
  | x :: xs => by
    have ih := fmI p f xs
    by_cases h : p x = true
    · simp only [List.map_cons, if_pos h, List.filter_cons_of_pos h, List.filterMap_cons, id, ih]
    · simp only [List.map_cons, if_neg h, List.filter_cons_of_neg h, List.filterMap_cons, id, ih]
/-- {net: value for net, value in x.items() if test} -/
theorem eo_dcFx (i : Nat) {x : Str} {p1 apos ipos : Pos} {C : Fx} {elts : List Expr} {kk : Nat} {tpos : Pos} (own : List (Str × Nat)) (p : Int × Str → Bool) (hc : X.calm = true) (hN : X.N.Nodup) (ok : BlkOk X.N X.env.scope scope own) (hρ : ρ[i]? = some (.sh (fxD C))) (nd : (C.map (·.1)).Nodup)
    (turn : ∀ q ∈ C, TurnDF X ρ scope (own.map (·.2)) (.Tuple elts kk tpos) kx vx ifs (.tup [.int q.1, .str q.2]) (if p q = true then some (kI q.1, .str q.2) else none)) (hl : C.length ≤ sizeLine)
    (hNi : X.N[i]? = some x := by rfl) (hv : Vis X.env.scope x := by first | exact Or.inl rfl | exact Or.inr (Or.inl rfl) | exact Or.inr (Or.inr rfl)) (hd : (x == ("__debug__" : Str)) = false := by decide) (hcd : (x == ("__classdict__" : Str)) = false := by decide)
    (hbase : attributeBase (.Name x p1) "items" X.env (eval (.Name x p1) X.env) = eval (.Name x p1) X.env := by rfl) (hline : (apos.endLine == ipos.line) = true := by rfl)
    (hs : ∀ z, foldedSetIterable (.Call (.Attribute (.Name x p1) "items" apos) [] [] ipos) X.env z = pure z := by intro _; rfl) : EO X ρ (.DictComp kx vx [⟨.Tuple elts kk tpos, .Call (.Attribute (.Name x p1) "items" apos) [] [] ipos, ifs, 0⟩] scope cpos) (.dk (fxK (C.filter p)) ((C.filter p).map fun q => D.str q.2)) := by
  have e := fmI p (fun q : Int × Str => (kI q.1, D.str q.2)) C
  have h := eo_dcItK (X := X) (ρ := ρ) (kx := kx) (vx := vx) (ifs := ifs) (scope := scope) (cpos := cpos) (elts := elts) (kk := kk) (tpos := tpos) (apos := apos) (ipos := ipos) (p1 := p1) i own hc hN ok hρ (C.map fun q => if p q = true then some (kI q.1, D.str q.2) else none) (by rw [List.length_map]; unfold fxK; rw [List.length_map]) (by
      rw [e, List.map_map]
      have : ((fun x : Key × D => x.1) ∘ fun q : Int × Str => (kI q.1, D.str q.2)) = kI ∘ fun q : Int × Str => q.1 := rfl
      rw [this, ← List.map_map]
      exact nodup_inj (fun a b hab => kI_inj hab) (nd.sublist (List.filter_sublist.map _))) (fun n d y hd hy => by
      obtain ⟨q, hq, rfl⟩ := itK_get hd
      rw [List.getElem?_map, hq] at hy
      cases hy
      exact turn q (List.mem_of_getElem? hq)) (by unfold fxK; rw [List.length_map]; exact hl) hNi hv hd hcd hbase hline hs
  rw [e, List.map_map, List.map_map] at h
  exact h
end
/-- the values as one string -/
theorem join_val {n : Nat} {z : Str} (hz : z.cps.toList.length = n) : Str.join "" (valL n z) = z := by
  have ho : ∀ s ∈ valL n z, OneS s := fun s hs => by
    unfold valL at hs
    obtain ⟨t, _, rfl⟩ := List.mem_map.mp hs
    exact ⟨_, rfl⟩
  have hj := sv_join ho
  rw [valL_len] at hj
  refine sv_signs hj.1 hz fun m h0 h1 => ?_
  have := hj.2 m.toNat (by omega)
  rw [show ((m.toNat : Nat) : Int) = m by omega] at this
  rw [this, List.getD_eq_getElem?_getD]
  unfold valL
  rw [List.getElem?_map, List.getElem?_range (by omega)]
  show vlS z ((m.toNat : Nat) : Int) = _
  rw [show ((m.toNat : Nat) : Int) = m by omega]
theorem vaL_room {n : Nat} {z : Str} (hn : n ≤ 1000) : sumL (valL n z) + (valL n z).length * ("" : Str).length ≤ 16777216 := by
  have h1 : sumL (valL n z) ≤ (valL n z).length := sumL_1 fun s hs => by
    unfold valL at hs
    obtain ⟨t, _, rfl⟩ := List.mem_map.mp hs
    exact Nat.le_of_eq rfl
  rw [valL_len] at h1 ⊢
  have e : ("" : Str).length = 0 := by decide +kernel
  rw [e]; omega
theorem val_z0 {n : Nat} {P : Fx} (hP : FxS P) : valL n (z0S n P) = (List.range n).map (zF P) := by
  unfold valL
  refine List.map_congr_left fun t ht => ?_
  have ht := List.mem_range.mp ht
  rw [z0_at hP (by omega) (by omega)]
  rfl
theorem val_ix {n : Nat} {z : Str} {C : Fx} {m : Int} (h0 : 0 ≤ m) (h1 : m < (n : Int)) : ixN ((upL n z C).map D.str).length m = some m.toNat := by
  rw [List.length_map, upL_len]
  unfold ixN
  rw [if_pos h0, if_pos h1]
theorem fx_nols : ∀ C : Fx, noLs (C.map fun p => D.str p.2) = true
  | [] => rfl
  | p :: C => fx_nols C
end DL
namespace DL
open PySem PySem.Spec PyProof.Rows L2
theorem nb_dget : ∀ (L : Lk) (m : Int), (lookK (L.map fun p => kI p.1) (L.map fun p => D.lst (p.2.map .int)) (kI m)).getD (.lst []) = .lst ((nbL L m).map .int)
  | [], m => rfl
  | (a, xs) :: r, m => by
    have ih := nb_dget r m
    show (lookK (kI a :: r.map fun p => kI p.1) (.lst (xs.map .int) :: r.map fun p => D.lst (p.2.map .int)) (kI m)).getD (.lst []) = .lst ((if a = m then xs else nbL r m).map .int)
    unfold lookK
    by_cases e : a = m
    · subst e; rw [if_pos rfl, if_pos rfl]; rfl
    · rw [if_neg fun z => e (kI_inj z), if_neg e]; exact ih
theorem fx_fresh {C : Fx} {i : Nat} {p : Int × Str} (nd : (C.map (·.1)).Nodup) (h : C[i]? = some p) : fxB (C.take i) p.1 = false := by
  cases e : fxB (C.take i) p.1 with
  | false => rfl
  | true =>
    obtain ⟨r, hr, er⟩ := fxB_iff.mp e
    obtain ⟨k, hk⟩ := List.getElem?_of_mem hr
    have hlt : k < i := by
      have := (List.getElem?_eq_some_iff.mp hk).1
      rw [List.length_take] at this; omega
    rw [List.getElem?_take_of_lt hlt] at hk
    have g1 : (C.map (·.1))[k]? = some p.1 := by rw [List.getElem?_map, hk]; exact congrArg some er
    have g2 : (C.map (·.1))[i]? = some p.1 := by rw [List.getElem?_map, h]; rfl
    have := (List.getElem?_inj (List.getElem?_eq_some_iff.mp g1).1 nd).mp (g1.trans g2.symm)
    omega
noncomputable def wkN (V : List Dev) (P : Fx) (k : Key) : List Int := match k with | .inl m => nbL (watL (grL P V)) m | _ => []
theorem st_flat {V : List Dev} {P C : Fx} : ((fxK C).flatMap fun k => (wkN V P k).map fun i => D.int i) = ((C.map (·.1)).flatMap fun m => nbL (watL (grL P V)) m).map .int := by
  unfold fxK
  induction C with
  | nil => rfl
  | cons p C ih =>
    simp only [List.map_cons, List.flatMap_cons, List.map_append]
    rw [ih]; rfl
theorem st_room {V : List Dev} {P C : Fx} (h : (wtD V P C).length ≤ 4096) : ((fxK C).flatMap fun k => (wkN V P k).map fun i => D.int i).length ≤ sizeLine := by
  rw [st_flat, List.length_map]
  unfold wtD at h
  rw [sizeLine_eq]; omega
end DL
namespace DL
open PySem PySem.Spec PyProof.Rows L2
theorem at_two {a b : D} {t : Bool} : atI [a, b] (if t = true then (1 : Int) else 0) = some (if t = true then b else a) := by
  cases t <;> rfl
end DL
theorem L2H.RoomH.units {k : Nat} {A : PySem.Around} (r : L2H.RoomH k A) : A.units + 64 < PySem.cLine := by have := r.un; omega
namespace DZS
open PySem DZ
open PySem.Sem (wp)
abbrev SI (x : Str) (t : Tok) (h : Heap) (i : Addr) (k : Nat) : Prop := h.IsStrIter i (strIterType x) x t k
theorem si_at {x : Str} {t : Tok} {h h' : Heap} {i : Addr} {k : Nat} (s : SI x t h i k) (e : ∀ o, h.get? i = some o → h'.get? i = some o) : SI x t h' i k := let ⟨o, ho, r⟩ := s; ⟨o, e o ho, r⟩
theorem si_lt {x : Str} {t : Tok} {h : Heap} {i : Addr} {k : Nat} (s : SI x t h i k) : i < h.objs.size := by
  obtain ⟨_, e, _⟩ := s; exact Heap.lt_size e
section
variable {prog : Program} {w : World} {A : Around} {E : Value → Shared → Prop} {s : Shared}
theorem sx_item {i : Addr} {x : Str} {t : Tok} {k c : Nat} {Q : Value → Shared → Prop} (hi : SI x t s.heap i k) (hx : x.cps[k]? = some c)
    (hQ : ∀ h', SI x t h' i (k + 1) → Heap.SameBut i s.heap h' → Q (.str ⟨#[c]⟩ s.toks) { s with heap := h', toks := s.toks + 1 }) : wpAny (model prog w) A (Builtin.SmallTypes.nextOf (.ref i)) Q E s := by
  unfold SI at hi hQ
  cases ha : x.cps.all (· < 128)
  · rw [show strIterType x = "str_iterator" by simp [strIterType, ha]] at hi hQ
    exact wpAny_nextOf_wide_item hi hx hQ
  · rw [show strIterType x = "str_ascii_iterator" by simp [strIterType, ha]] at hi hQ
    exact wpAny_nextOf_ascii_item hi hx hQ
theorem sx_end {i : Addr} {x : Str} {t : Tok} {k : Nat} {Q : Value → Shared → Prop} (hh : A.handled = none) (hi : SI x t s.heap i k) (hx : x.cps[k]? = none)
    (hE : ∀ h' e, Heap.ExtBut i s.heap h' → (∃ o, h'.get? e = some o ∧ o.cls = .type "StopIteration") → E (.ref e) { s with heap := h' }) : wpAny (model prog w) A (Builtin.SmallTypes.nextOf (.ref i)) Q E s := by
  unfold SI at hi
  cases ha : x.cps.all (· < 128)
  · rw [show strIterType x = "str_iterator" by simp [strIterType, ha]] at hi
    exact wpAny_nextOf_wide_end hh hi hx hE
  · rw [show strIterType x = "str_ascii_iterator" by simp [strIterType, ha]] at hi
    exact wpAny_nextOf_ascii_end hh hi hx hE
/-- the first half of a turn: z is marked, the first item is asked -/
theorem turn_item {b1 : Bool} {zx : Str} {zt : Tok} {z TI TO i1 i2 l1 : Addr} {k1 k2 cc : Nat} {xs : Array Value} {x u v : Value} {Q : Value → Shared → Prop} (D : ZipApart z TI TO i1 i2 l1 l1)
    (hz : IsZip s.heap z TI TO .none) (hTI : IsPair s.heap TI (.ref i1) (.ref i2)) (hTO : IsPair s.heap TO u v) (h1 : HI b1 s.heap i1 l1 k1) (h2 : SI zx zt s.heap i2 k2) (hl1 : HS b1 s.heap l1 xs) (hx : xs[k1]? = some x) (hy : zx.cps[k2]? = some cc)
    (hQ : ∀ h', IsZip h' z TI TO (rawInt s.heap.objs.size) → IsPair h' TO x (.str ⟨#[cc]⟩ s.toks) → HI b1 h' i1 l1 (k1 + 1) → SI zx zt h' i2 (k2 + 1) → IsPair h' s.heap.objs.size x (.str ⟨#[cc]⟩ s.toks) → h'.objs.size = s.heap.objs.size + 1 → KeepZ z TO i1 i2 s.heap h' → Q (.ref s.heap.objs.size) { s with heap := h', toks := s.toks + 1 }) :
    wpAny (model prog w) A (Builtin.«zip.__next__» ⟨[.ref z], []⟩) (fun fin s' => ∃ v, fin = .done (.ret v) ∧ Q v s') E s := by
  show wpAny _ _ (field (.ref z) 2 >>= _) _ _ _
  refine wpAny_bind (wpAny_field hz rfl (x := .bool false) rfl ?_)
  show wpAny _ _ (field (.ref z) 3 >>= _) _ _ _
  refine wpAny_bind (wpAny_field hz rfl (x := .ref TI) rfl (wpAny_bind (wpAny_seqItems hTI rfl ?_)))
  show wpAny _ _ (Builtin.SmallTypes.ownedTupleIsFree (.ref z) >>= _) _ _ _
  unfold Builtin.SmallTypes.ownedTupleIsFree
  refine wpAny_bind (wpAny_bind (wpAny_field hz rfl (x := .none) rfl (wpAny_pure ?_)))
  simp only [if_true]
  refine wpAny_bind (wpAny_rule (wpAny_bind (wpAny_field hz rfl (x := .ref TO) rfl (wpAny_bind (wpAny_setField_rec hz (by simp) fun g1 z1 s1 => ?_)))))
  replace z1 : IsZip g1 z TI TO .ellipsis := z1
  have x1 : ∀ c o, c ≠ z → s.heap.get? c = some o → g1.get? c = some o := s1.extBut
  simp only [List.zipIdx_cons, List.zipIdx_nil, List.forIn_cons, List.forIn_nil]
  refine wpAny_bind (wpAny_bind (wpAny_bind (wpAny_onRaise ?_)))
  show wpAny _ _ (Builtin.SmallTypes.nextOf (.ref i1) >>= _) _ _ _
  refine wpAny_bind (nx_item (h1.at fun o e => x1 _ o D.i1z e) (hl1.at fun o e => x1 _ o D.l1z e) hx fun g2 n1 s2 => wpAny_pure ?_)
  have x2 : ∀ c o, c ≠ z → c ≠ i1 → s.heap.get? c = some o → g2.get? c = some o := fun c o a b e => s2.extBut c o b (x1 c o a e)
  have t2 : IsPair g2 TO u v := x2 _ _ D.TOz D.TOi1 hTO
  refine wpAny_bind (wpAny_seqItems t2 rfl (wpAny_bind (wpAny_updateSeq_pair t2 fun g3 t3 s3 => ?_)))
  replace t3 : IsPair g3 TO x v := t3
  have x3 : ∀ c o, c ≠ z → c ≠ TO → c ≠ i1 → s.heap.get? c = some o → g3.get? c = some o := fun c o a b d e => s3.extBut c o b (x2 c o a d e)
  refine wpAny_bind (wpAny_letGo (wpAny_pure (wpAny_bind (wpAny_bind (wpAny_onRaise ?_)))))
  show wpAny _ _ (Builtin.SmallTypes.nextOf (.ref i2) >>= _) _ _ _
  refine wpAny_bind (sx_item (si_at h2 fun o e => x3 _ o D.i2z D.TOi2.symm D.i12.symm e) hy fun g4 n2 s4 => wpAny_pure ?_)
  have t4 : IsPair g4 TO x v := s4.extBut _ _ D.TOi2 t3
  refine wpAny_bind (wpAny_seqItems t4 rfl (wpAny_bind (wpAny_updateSeq_pair t4 fun g5 t5 s5 => ?_)))
  replace t5 : IsPair g5 TO x (.str ⟨#[cc]⟩ s.toks) := t5
  have x5 : ∀ c o, c ≠ z → c ≠ TO → c ≠ i1 → c ≠ i2 → s.heap.get? c = some o → g5.get? c = some o := fun c o a b d f e => s5.extBut c o b (s4.extBut c o f (x3 c o a b d e))
  refine wpAny_bind (wpAny_letGo (wpAny_pure (wpAny_pure ?_)))
  refine wpAny_bind (wpAny_seqItems t5 rfl (wpAny_bind (wpAny_newTuple ?_)))
  have z5 : IsZip g5 z TI TO .ellipsis := s5.extBut _ _ D.TOz.symm (s4.extBut _ _ D.i2z.symm (s3.extBut _ _ D.TOz.symm (s2.extBut _ _ D.i1z.symm z1)))
  have size : g5.objs.size = s.heap.objs.size := by rw [s5.1, s4.1, s3.1, s2.1, s1.1]
  have m1 : HI b1 g5 i1 l1 (k1 + 1) := n1.at fun o e => s5.extBut _ o D.TOi1.symm (s4.extBut _ o D.i12 (s3.extBut _ o D.TOi1.symm e))
  have m2 : SI zx zt g5 i2 (k2 + 1) := si_at n2 fun o e => s5.extBut _ o D.TOi2.symm e
  show wpAny _ _ (Builtin.SmallTypes.ownedTupleHandOut (.ref z) (.ref g5.objs.size) >>= _) _ _ _
  unfold Builtin.SmallTypes.ownedTupleHandOut
  have z6 : IsZip (g5.push { cls := .type "tuple", data := .seq #[x, .str ⟨#[cc]⟩ s.toks] }) z TI TO .ellipsis := Heap.get?_push_of_some _ z5
  refine wpAny_bind (wpAny_bind (wpAny_setField_rec z6 (by simp) fun g7 z7 s7 => ?_))
  replace z7 : IsZip g7 z TI TO (rawInt g5.objs.size) := z7
  refine wpAny_setField_rec z7 (by simp) fun g8 z8 s8 => ?_
  replace z8 : IsZip g8 z TI TO (rawInt g5.objs.size) := z8
  have x8 : ∀ c o, c ≠ z → g5.get? c = some o → g8.get? c = some o := fun c o a e => s8.extBut c o a (s7.extBut c o a (Heap.get?_push_of_some _ e))
  have t8 : IsPair g8 g5.objs.size x (.str ⟨#[cc]⟩ s.toks) := s8.extBut _ _ (Nat.ne_of_gt (Heap.lt_size z5)) (s7.extBut _ _ (Nat.ne_of_gt (Heap.lt_size z5)) (Heap.get?_push_size _ rfl))
  have n8 : g8.objs.size = g5.objs.size + 1 := by rw [s8.1, s7.1, Heap.size_push]
  rw [size] at z8 t8 n8
  refine wpAny_pure ⟨_, rfl, ?_⟩
  show Q (.ref g5.objs.size) _
  rw [size]
  exact hQ g8 z8 (x8 _ _ D.TOz t5) (m1.at fun o e => x8 _ o D.i1z e) (si_at m2 fun o e => x8 _ o D.i2z e) t8 n8 fun c o a b d f e => x8 c o a (x5 c o a b d f e)
theorem turn_end {b1 : Bool} {zx : Str} {zt : Tok} {z TI TO i1 i2 l1 : Addr} {k1 k2 : Nat} {xs : Array Value} {u v : Value} {Q : Fin → Shared → Prop} (hh : A.handled = none) (D : ZipApart z TI TO i1 i2 l1 l1)
    (hz : IsZip s.heap z TI TO .none) (hTI : IsPair s.heap TI (.ref i1) (.ref i2)) (hTO : IsPair s.heap TO u v) (h1 : HI b1 s.heap i1 l1 k1) (h2 : SI zx zt s.heap i2 k2) (hl1 : HS b1 s.heap l1 xs) (hend : xs[k1]? = none ∨ zx.cps[k2]? = none)
    (hE : ∀ h' e, KeepZ z TO i1 i2 s.heap h' → (∃ o, h'.get? e = some o ∧ o.cls = .type "StopIteration") → E (.ref e) { s with heap := h' }) :
    wpAny (model prog w) A (Builtin.«zip.__next__» ⟨[.ref z], []⟩) Q E s := by
  show wpAny _ _ (field (.ref z) 2 >>= _) _ _ _
  refine wpAny_bind (wpAny_field hz rfl (x := .bool false) rfl ?_)
  show wpAny _ _ (field (.ref z) 3 >>= _) _ _ _
  refine wpAny_bind (wpAny_field hz rfl (x := .ref TI) rfl (wpAny_bind (wpAny_seqItems hTI rfl ?_)))
  show wpAny _ _ (Builtin.SmallTypes.ownedTupleIsFree (.ref z) >>= _) _ _ _
  unfold Builtin.SmallTypes.ownedTupleIsFree
  refine wpAny_bind (wpAny_bind (wpAny_field hz rfl (x := .none) rfl (wpAny_pure ?_)))
  simp only [if_true]
  refine wpAny_bind (wpAny_rule (wpAny_bind (wpAny_field hz rfl (x := .ref TO) rfl (wpAny_bind (wpAny_setField_rec hz (by simp) fun g1 z1 s1 => ?_)))))
  replace z1 : IsZip g1 z TI TO .ellipsis := z1
  have x1 : ∀ c o, c ≠ z → s.heap.get? c = some o → g1.get? c = some o := s1.extBut
  simp only [List.zipIdx_cons, List.zipIdx_nil, List.forIn_cons, List.forIn_nil]
  refine wpAny_bind (wpAny_bind (wpAny_bind (wpAny_onRaise ?_)))
  show wpAny _ _ (Builtin.SmallTypes.nextOf (.ref i1) >>= _) _ _ _
  have H1 : HI b1 g1 i1 l1 k1 := h1.at fun o e => x1 _ o D.i1z e
  have L1 : HS b1 g1 l1 xs := hl1.at fun o e => x1 _ o D.l1z e
  by_cases hx : xs[k1]? = none
  · refine wpAny_bind (nx_end hh H1 L1 hx fun g2 e s2 ⟨oe, he, ce⟩ => ?_)
    have z2 : IsZip g2 z TI TO .ellipsis := s2 _ _ D.i1z.symm z1
    have ez : e ≠ z := fun q => by rw [q, z2] at he; cases he; simp at ce
    exact wpAny_setField_rec z2 (by simp) fun g3 _ s3 => hE g3 e (fun c o a _ d _ q => s3.extBut _ _ a (s2 _ _ d (x1 _ _ a q))) ⟨oe, s3.extBut _ _ ez he, ce⟩
  · obtain ⟨x, hx⟩ := Option.ne_none_iff_exists'.mp hx
    have hy : zx.cps[k2]? = none := hend.resolve_left (by rw [hx]; simp)
    refine wpAny_bind (nx_item H1 L1 hx fun g2 n1 s2 => wpAny_pure ?_)
    have x2 : ∀ c o, c ≠ z → c ≠ i1 → s.heap.get? c = some o → g2.get? c = some o := fun c o a b e => s2.extBut c o b (x1 c o a e)
    have t2 : IsPair g2 TO u v := x2 _ _ D.TOz D.TOi1 hTO
    refine wpAny_bind (wpAny_seqItems t2 rfl (wpAny_bind (wpAny_updateSeq_pair t2 fun g3 t3 s3 => ?_)))
    have x3 : ∀ c o, c ≠ z → c ≠ TO → c ≠ i1 → s.heap.get? c = some o → g3.get? c = some o := fun c o a b d e => s3.extBut c o b (x2 c o a d e)
    refine wpAny_bind (wpAny_letGo (wpAny_pure (wpAny_bind (wpAny_bind (wpAny_onRaise ?_)))))
    show wpAny _ _ (Builtin.SmallTypes.nextOf (.ref i2) >>= _) _ _ _
    refine wpAny_bind (sx_end hh (si_at h2 fun o e => x3 _ o D.i2z D.TOi2.symm D.i12.symm e) hy fun g4 e s4 ⟨oe, he, ce⟩ => ?_)
    have z4 : IsZip g4 z TI TO .ellipsis := s4 _ _ D.i2z.symm (s3.extBut _ _ D.TOz.symm (s2.extBut _ _ D.i1z.symm z1))
    have ez : e ≠ z := fun q => by rw [q, z4] at he; cases he; simp at ce
    exact wpAny_setField_rec z4 (by simp) fun g5 _ s5 => hE g5 e (fun c o a b d f q => s5.extBut _ _ a (s4 _ _ f (x3 _ _ a b d q))) ⟨oe, s5.extBut _ _ ez he, ce⟩
theorem py_item {b1 : Bool} {zx : Str} {zt : Tok} {z TI TO i1 i2 l1 : Addr} {k1 k2 cc : Nat} {xs : Array Value} {x u v : Value} {Q : Option Value → Shared → Prop} (D : ZipApart z TI TO i1 i2 l1 l1)
    (hz : IsZip s.heap z TI TO .none) (hTI : IsPair s.heap TI (.ref i1) (.ref i2)) (hTO : IsPair s.heap TO u v) (h1 : HI b1 s.heap i1 l1 k1) (h2 : SI zx zt s.heap i2 k2) (hl1 : HS b1 s.heap l1 xs) (hx : xs[k1]? = some x) (hy : zx.cps[k2]? = some cc)
    (hQ : ∀ h', IsZip h' z TI TO (rawInt s.heap.objs.size) → IsPair h' TO x (.str ⟨#[cc]⟩ s.toks) → HI b1 h' i1 l1 (k1 + 1) → SI zx zt h' i2 (k2 + 1) → IsPair h' s.heap.objs.size x (.str ⟨#[cc]⟩ s.toks) → h'.objs.size = s.heap.objs.size + 1 → KeepZ z TO i1 i2 s.heap h' → Q (some (.ref s.heap.objs.size)) { s with heap := h', toks := s.toks + 1 }) :
    wpAny (model prog w) A (pyNext (.ref z)) Q E s := by
  have hT : s.TypeIs (.ref z) "zip" := ⟨_, hz, rfl⟩
  unfold pyNext
  refine wpAny_bind (wpAny_attempt (wpAny_callSpecial?_slot (name := Str.ofString "__next__") hT F.slot_zip_next (wpAny_call_entry F.slot_zip_next hT F.entry_zip_next ?_ (F.args_zip_next_1 _))))
  exact turn_item D hz hTI hTO h1 h2 hl1 hx hy fun h' a1 a2 a3 a4 a5 a6 a7 => wpAny_pure (hQ h' a1 a2 a3 a4 a5 a6 a7)
theorem py_end {b1 : Bool} {zx : Str} {zt : Tok} {z TI TO i1 i2 l1 : Addr} {k1 k2 : Nat} {xs : Array Value} {u v : Value} {Q : Option Value → Shared → Prop} (hh : A.handled = none) (D : ZipApart z TI TO i1 i2 l1 l1)
    (hz : IsZip s.heap z TI TO .none) (hTI : IsPair s.heap TI (.ref i1) (.ref i2)) (hTO : IsPair s.heap TO u v) (h1 : HI b1 s.heap i1 l1 k1) (h2 : SI zx zt s.heap i2 k2) (hl1 : HS b1 s.heap l1 xs) (hend : xs[k1]? = none ∨ zx.cps[k2]? = none)
    (hQ : ∀ h', KeepZ z TO i1 i2 s.heap h' → Q none { s with heap := h' }) : wpAny (model prog w) A (pyNext (.ref z)) Q E s := by
  have hT : s.TypeIs (.ref z) "zip" := ⟨_, hz, rfl⟩
  unfold pyNext
  refine wpAny_bind (wpAny_attempt (wpAny_callSpecial?_slot (name := Str.ofString "__next__") hT F.slot_zip_next (wpAny_call_entry F.slot_zip_next hT F.entry_zip_next
    (turn_end hh D hz hTI hTO h1 h2 hl1 hend fun h' e hk ⟨o, ho, hc⟩ => wpAny_bind (wpAny_isInstance (T := "StopIteration") (b := true) ⟨o, ho, hc⟩ isSubtype_stop (wpAny_pure (hQ _ hk)))) (F.args_zip_next_1 _))))
end
abbrev Z1 (b1 : Bool) (h : Heap) (l1 : Addr) : Heap := h.push { cls := .type (iterN b1), data := .fields #[.ref l1, .int 0 0] }
abbrev Z2 (b1 : Bool) (zx : Str) (zt : Tok) (h : Heap) (l1 : Addr) : Heap := (Z1 b1 h l1).push { cls := .type (strIterType zx), data := .fields #[.str zx zt, .int 0 0] }
abbrev Z3 (b1 : Bool) (zx : Str) (zt : Tok) (h : Heap) (l1 : Addr) : Heap := (Z2 b1 zx zt h l1).push { cls := .type "tuple", data := .seq #[.ref h.objs.size, .ref (Z1 b1 h l1).objs.size] }
abbrev Z4 (b1 : Bool) (zx : Str) (zt : Tok) (h : Heap) (l1 : Addr) : Heap := (Z3 b1 zx zt h l1).push { cls := .type "tuple", data := .seq #[.none, .none] }
abbrev Z5 (b1 : Bool) (zx : Str) (zt : Tok) (h : Heap) (l1 : Addr) : Heap := (Z4 b1 zx zt h l1).push { cls := .type "zip", data := .fields #[.none, .bool false, .bool false, .ref (Z2 b1 zx zt h l1).objs.size, .ref (Z3 b1 zx zt h l1).objs.size] }
theorem new_zip (b1 : Bool) (zx : Str) (zt : Tok) (l1 : Addr) (xs : Array Value) :
    Meets (Builtin.«zip.__new__» ⟨[.type "zip", .ref l1, .str zx zt], []⟩) (fun _ R s => HS b1 s.heap l1 xs ∧ R (.ok (.ret (.ref (Z4 b1 zx zt s.heap l1).objs.size))) { s with heap := Z5 b1 zx zt s.heap l1 }) :=
  .of_wp fun prog w A R s h => by
    obtain ⟨hp, g, d, tk, os⟩ := s
    obtain ⟨hl1, h⟩ := h
    have hsub := sub_zip
    have hL1 : HS b1 (Shared.heap ⟨hp, g, d, tk, os⟩) l1 xs := hl1
    wp_walk using iter_of hL1, wpAny_pyIter_strU
    exact ⟨_, rfl, h⟩
section
variable {prog : Program} {w : World} {A : Around} {E : Value → Shared → Prop} {s : Shared}
theorem call_zip {b1 : Bool} {zx : Str} {zt : Tok} {l1 : Addr} {xs : Array Value} {Q : Value → Shared → Prop} (hl1 : HS b1 s.heap l1 xs)
    (h : ∀ h', IsZip h' (s.heap.objs.size + 4) (s.heap.objs.size + 2) (s.heap.objs.size + 3) .none → IsPair h' (s.heap.objs.size + 2) (.ref s.heap.objs.size) (.ref (s.heap.objs.size + 1)) → IsPair h' (s.heap.objs.size + 3) .none .none →
      HI b1 h' s.heap.objs.size l1 0 → SI zx zt h' (s.heap.objs.size + 1) 0 → (∀ c o, s.heap.get? c = some o → h'.get? c = some o) → Q (.ref (s.heap.objs.size + 4)) { s with heap := h' }) :
    wpAny (model prog w) A (call (.type "zip") [.ref l1, .str zx zt]) Q E s := by
  refine callType_new F.called_zip (by decide) (F.typeCall_zip_2 _ _) (F.newCall_zip_2 _ _) (fun obj => F.args_object_init_3 obj _ _) F.entry_zip_new (new_zip b1 zx zt l1 xs) ⟨hl1, ?_⟩
  have n1 : (Z1 b1 s.heap l1).objs.size = s.heap.objs.size + 1 := Heap.size_push ..
  have n2 : (Z2 b1 zx zt s.heap l1).objs.size = s.heap.objs.size + 2 := by rw [Heap.size_push, n1]
  have n3 : (Z3 b1 zx zt s.heap l1).objs.size = s.heap.objs.size + 3 := by rw [Heap.size_push, n2]
  have n4 : (Z4 b1 zx zt s.heap l1).objs.size = s.heap.objs.size + 4 := by rw [Heap.size_push, n3]
  have up1 : ∀ c o, s.heap.get? c = some o → (Z1 b1 s.heap l1).get? c = some o := fun c o e => Heap.get?_push_of_some _ e
  have up2 : ∀ c o, (Z1 b1 s.heap l1).get? c = some o → (Z2 b1 zx zt s.heap l1).get? c = some o := fun c o e => Heap.get?_push_of_some _ e
  have up3 : ∀ c o, (Z2 b1 zx zt s.heap l1).get? c = some o → (Z5 b1 zx zt s.heap l1).get? c = some o := fun c o e => Heap.get?_push_of_some _ (Heap.get?_push_of_some _ (Heap.get?_push_of_some _ e))
  have g5 : (Z5 b1 zx zt s.heap l1).get? (Z4 b1 zx zt s.heap l1).objs.size = some _ := Heap.get?_push_size _ rfl
  have g4 : (Z5 b1 zx zt s.heap l1).get? (Z3 b1 zx zt s.heap l1).objs.size = some _ := Heap.get?_push_of_some _ (Heap.get?_push_size _ rfl)
  have g3 : (Z5 b1 zx zt s.heap l1).get? (Z2 b1 zx zt s.heap l1).objs.size = some _ := Heap.get?_push_of_some _ (Heap.get?_push_of_some _ (Heap.get?_push_size _ rfl))
  have i2 : SI zx zt (Z2 b1 zx zt s.heap l1) (Z1 b1 s.heap l1).objs.size 0 := ⟨_, Heap.get?_push_size _ rfl, rfl, rfl⟩
  have i1 : HI b1 (Z1 b1 s.heap l1) s.heap.objs.size l1 0 := by cases b1 <;> exact ⟨_, Heap.get?_push_size _ rfl, rfl, rfl⟩
  have j2 := si_at i2 fun o e => up3 _ o e
  have j1 := i1.at fun o e => up3 _ o (up2 _ o e)
  show _ ∧ _
  rw [n2, n3, n4] at g5
  rw [n1, n2] at g3
  rw [n3] at g4
  rw [n1] at j2
  rw [n4]
  exact ⟨⟨_, g5, rfl⟩, h _ g5 g3 g4 j1 j2 fun c o e => up3 c o (up2 c o (up1 c o e))⟩
end
end DZS
namespace DL
open PySem PySem.Spec PyProof.Rows L2
def ItzS (K : PySem.W.Frag) (a : Addr) (zx : Str) : It :=
  ⟨fun i H => ∃ (xs : List V) (x : V), SqL K H a xs ∧ xs[i]? = some x ∧ i < zx.cps.size,
    fun i H v H' => ∃ T x c, v = .ref T ∧ H T = none ∧ zx.cps[i]? = some c ∧ H' = upd H T (.tup [x, .str ⟨#[c]⟩]) ∧ (∀ xs, SqL K H a xs → xs[i]? = some x),
    fun i H => ∃ xs : List V, SqL K H a xs ∧ (xs.length ≤ i ∨ zx.cps.size ≤ i)⟩
theorem turn_zipS {P : Program} {w : World} {K : PySem.W.Frag} {elts : List Expr} {kk : Nat} {tpos : Pos} {a z TI TO i1 i2 : Addr} {zx : Str} {zt : Tok} (D : ZipApart z TI TO i1 i2 a a) :
    Turn P w K (.Tuple elts kk tpos) (ItzS K a zx) [z, TI, TO, i1, i2] z (fun i h => IsZip h z TI TO .none ∧ IsPair h TI (.ref i1) (.ref i2) ∧ (∃ x y, IsPair h TO x y) ∧ DZ.HI true h i1 a i ∧ DZS.SI zx zt h i2 i) where
  mem := by simp
  obj := fun i h st c hc => by
    obtain ⟨hz, hTI, ⟨x, y, hTO⟩, h1, h2⟩ := st
    simp only [List.mem_cons, List.not_mem_nil, or_false] at hc
    rcases hc with q | q | q | q | q
    · rw [q]; exact ⟨_, hz, fun v q => nomatch q⟩
    · rw [q]; exact ⟨_, hTI, fun v q => nomatch q⟩
    · rw [q]; exact ⟨_, hTO, fun v q => nomatch q⟩
    · rw [q]
      obtain ⟨o1, e1, _, d1⟩ := (h1 : h.IsListIter i1 a i); exact ⟨o1, e1, fun v q => by rw [d1] at q; cases q⟩
    · rw [q]
      obtain ⟨o1, e1, _, d1⟩ := h2; exact ⟨o1, e1, fun v q => by rw [d1] at q; cases q⟩
  keep := fun i h h' st k => by
    obtain ⟨hz, hTI, ⟨x, y, hTO⟩, h1, h2⟩ := st
    exact ⟨k z (by simp) _ hz, k TI (by simp) _ hTI, ⟨x, y, k TO (by simp) _ hTO⟩, h1.at fun o q => k i1 (by simp) o q, DZS.si_at h2 fun o q => k i2 (by simp) o q⟩
  item := by
    intro X hP hw hK hc i pins s σ H E I hf st hg
    subst hP hw hK
    obtain ⟨hz, hTI, ⟨x0, y0, hTO⟩, h1, h2⟩ := st
    obtain ⟨xs, x, hqx, hx, hlt⟩ := hg
    obtain ⟨c, hcx⟩ : ∃ c, zx.cps[i]? = some c := ⟨zx.cps[i], Array.getElem?_eq_getElem hlt⟩
    obtain ⟨its, rv, p⟩ := inv_seq (b := true) I hqx
    obtain ⟨u, hu, ru⟩ := rv.get hx
    have hzl : z < s.heap.objs.size := Heap.lt_size hz
    refine DZS.py_item D hz hTI hTO h1 h2 p (x := u) (cc := c) (by simpa using hu) hcx fun h' z' TO' h1' h2' hT hsz hk => ?_
    refine ⟨_, rfl, wpAny_letOwnedTupleGo_zip (s := { s with heap := h', toks := s.toks + 1 }) z' fun h'' z'' sb => ?_⟩
    have hT2 : h''.get? s.heap.objs.size = some { cls := .type "tuple", data := .seq #[u, .str ⟨#[c]⟩ s.toks] } := (sb.2 _ (Nat.ne_of_gt hzl)).trans hT
    have new : ObjOk X.prog X.w (upd H s.heap.objs.size (.tup [x, .str ⟨#[c]⟩])) h'' s.heap.objs.size (.tup [x, .str ⟨#[c]⟩]) :=
      ⟨by show 2 ≤ sizeLine; decide, [u, .str ⟨#[c]⟩ s.toks], .cons ru (.cons ⟨_, rfl⟩ .nil), ⟨_, hT2, rfl, _, rfl⟩⟩
    have I1 : L2.Inv X pins σ (upd H s.heap.objs.size (.tup [x, .str ⟨#[c]⟩])) { s with heap := h'', toks := s.toks + 1 } :=
      I.turnedNew (t' := s.toks + 1) (ch := [z, TI, TO, i1, i2]) (fun c o hb q => (sb.2 c (fun q' => hb (by simp [q']))).trans (hk c o (fun q' => hb (by simp [q'])) (fun q' => hb (by simp [q'])) (fun q' => hb (by simp [q'])) (fun q' => hb (by simp [q'])) q)) hf (Nat.le_refl _) new
    refine ⟨.ref s.heap.objs.size, _, I1, rfl, ⟨_, x, c, rfl, I.hok.fresh (Nat.le_refl _), hcx, rfl, fun l hl => by rw [inv_inj (b := true) I hl hqx]; exact hx⟩, ⟨z'', ?_, ⟨u, .str ⟨#[c]⟩ s.toks, ?_⟩, ?_, ?_⟩, fun c hcm => ?_⟩
    · exact (sb.2 _ D.TIz).trans (hk _ _ D.TIz D.TITO D.TIi1 D.TIi2 hTI)
    · exact (sb.2 _ D.TOz).trans TO'
    · exact h1'.at fun o q => (sb.2 _ D.i1z).trans q
    · exact DZS.si_at h2' fun o q => (sb.2 _ D.i2z).trans q
    · have hlt : c < s.heap.objs.size := by
        simp only [List.mem_cons, List.not_mem_nil, or_false] at hcm
        rcases hcm with q | q | q | q | q
        · rw [q]; exact hzl
        · rw [q]; exact Heap.lt_size hTI
        · rw [q]; exact Heap.lt_size hTO
        · rw [q]; exact h1.lt
        · rw [q]; exact DZS.si_lt h2
      rw [upd_ne (Nat.ne_of_lt hlt)]
      exact (hf c hcm).1
  done := by
    intro X hP hw hK hc i pins s σ H E I hf st hg
    subst hP hw hK
    obtain ⟨hz, hTI, ⟨x0, y0, hTO⟩, h1, h2⟩ := st
    obtain ⟨xs, hqx, hend⟩ := hg
    obtain ⟨its, rv, p⟩ := inv_seq (b := true) I hqx
    have l1 := rv.length
    have he : its.toArray[i]? = none ∨ zx.cps[i]? = none := by
      rcases hend with q | q
      · exact .inl (by simp; omega)
      · exact .inr (Array.getElem?_eq_none q)
    exact DZS.py_end (I.ok.hd hc) D hz hTI hTO h1 h2 p he fun h' hk => ⟨rfl, I.turnedL (t' := s.toks) (ch := [z, TI, TO, i1, i2]) (fun c o hb q =>
      hk c o (fun q' => hb (by simp [q'])) (fun q' => hb (by simp [q'])) (fun q' => hb (by simp [q'])) (fun q' => hb (by simp [q'])) q) hf⟩
  self := fun A i s Q E st h => wpAny_pyIter_zip st.1 h
def iZipS (K : PySem.W.Frag) (ta : TA) : TI := fun σ H R => ta σ H fun vs H1 => ∃ a xs zx, vs = [.ref a, .str zx] ∧ SqL K H1 a xs ∧ R (ItzS K a zx) H1
theorem pi_zipS {X : Cx} {e e2 : Expr} {ta : TA} {p pos tpos : Pos} {elts : List Expr} {kk : Nat} (hg : Gl X "zip") (hm : X.mg "zip" = none) (ha : PA X [e, e2] ta)
    (hs : starEach [e, e2] X.env = (false, eval e X.env) :: starEach [e2] X.env := by rfl) (hpl : (backTo pos (starEach [e2] X.env)).any (·.1) = false := by rfl) :
    L2.PI X (.Tuple elts kk tpos) (.Call (.Name "zip" p) [e, e2] [] pos) (iZipS X.K ta) := by
  refine ⟨fun pins s σ H R I h => ?_⟩
  refine Call_ (ld_blt I hg hm PyProof.Rows.boot_zip (PyProof.Rows.callWith_type1 (thn (ha.run pos pins s σ H _ I h) fun us s1 ⟨vs, H1, I1, r1, q1⟩ => ?_) hs hpl))
  obtain ⟨a, xs, zx, ex, hqx, q⟩ := q1
  subst ex
  cases r1 with
  | cons r rr =>
    cases rr with
    | cons r' rr =>
      cases rr
      cases r
      obtain ⟨zt, rfl⟩ := r'
      obtain ⟨its, rv, p1⟩ := inv_seq (b := true) I1 hqx
      refine DZS.call_zip p1 fun h' hz hTI hTO h1 h2 hk => wpAny_pyIter_zip hz ?_
      have I2 : L2.Inv X pins σ H1 { s1 with heap := h' } := I1.kept (t' := s1.toks) hk
      refine ⟨s1.heap.objs.size + 4, [s1.heap.objs.size + 4, s1.heap.objs.size + 2, s1.heap.objs.size + 3, s1.heap.objs.size, s1.heap.objs.size + 1], _, _, H1, rfl, I2, turn_zipS (PySem.W.ktu_apart s1.heap.objs.size a a (hs_lt p1) (hs_lt p1)), ⟨hz, hTI, ⟨_, _, hTO⟩, h1, h2⟩, fun c hcm => ?_, q⟩
      have hle : s1.heap.objs.size ≤ c := by
        simp only [List.mem_cons, List.not_mem_nil, or_false] at hcm
        rcases hcm with z | z | z | z | z <;> rw [z]
        · exact Nat.le_add_right _ _
        · exact Nat.le_add_right _ _
        · exact Nat.le_add_right _ _
        · exact Nat.le_refl _
        · exact Nat.le_add_right _ _
      exact I1.fpOk hle (I1.hok.fresh hle)
theorem walk_zipS {K : PySem.W.Frag} {a : Addr} {xs : List V} {zx : Str} : Walk (ItzS K a zx) (min xs.length zx.cps.size) (fun H => SqL K H a xs) (YPair (fun i => xs[i]?) (fun i => (zx.cps[i]?).map fun c => V.str ⟨#[c]⟩)) := by
  refine ⟨fun i _ hi q => ?_, fun _ q => ⟨xs, q, by omega⟩, fun i H v H' _ q ⟨T, x, c, e1, e2, e3, e4, e5⟩ => ⟨T, x, _, e1, e2, e4, e5 xs q, by show Option.map _ zx.cps[i]? = _; rw [e3]; rfl⟩⟩
  have h1 : i < xs.length := by omega
  have h2 : i < zx.cps.size := by omega
  exact ⟨xs, xs[i], q, by simp [h1], h2⟩
def zipS (ds : List D) (zx : Str) : List D := ds.zipWith (fun d c => D.tup [d, .str ⟨#[c]⟩]) zx.cps.toList
/-- zip(a list, a text) -/
theorem id_zipLS {X : Cx} {ρ : En} {a b : Expr} {pos : Pos} {ds : List D} {zx : Str} {elts : List Expr} {kk : Nat} {tpos p : Pos} (hg : Gl X "zip") (hm : X.mg "zip" = none) (ha : ED X ρ a (.lst ds)) (hb : ED X ρ b (.str zx))
    (hs : starEach [a, b] X.env = (false, eval a X.env) :: starEach [b] X.env := by rfl) (hpl : (backTo pos (starEach [b] X.env)).any (·.1) = false := by rfl) (hs4 : starEach [b] X.env = (false, eval b X.env) :: starEach [] X.env := by rfl) :
    ID X ρ (.Tuple elts kk tpos) (.Call (.Name "zip" p) [a, b] [] pos) (zipS ds zx) := fun B0 B σ H0 H R j k =>
  ⟨_, pi_zipS hg hm pa_star hs hpl, ad_cons (X := X) ha (ad_cons hb ad_nil hs4) hs B0 B σ H0 H _ j fun vs G0 G g r => by
    obtain ⟨x, y, rfl, ⟨q, ys, rfl, h1, h2⟩, h3⟩ := r.two
    cases (show y = .str zx from h3)
    refine ⟨q, ys, zx, rfl, g.sh.seq h1, k _ G0 G g (dw_pair (f := fun _ => none) (g := fun _ => none) walk_zipS (by rw [zipS, List.length_zipWith, DRs.length h2]; rfl) (fun H1 H s1 s2 => (s1.trans s2).seq h1) fun i d hd => ?_)⟩
    rw [zipS, List.getElem?_zipWith] at hd
    match e1 : ds[i]?, e2 : zx.cps.toList[i]? with
    | none, _ => rw [e1] at hd; simp at hd
    | some d1, none => rw [e1, e2] at hd; simp at hd
    | some d1, some c =>
      rw [e1, e2] at hd
      obtain ⟨v1, f1, f2⟩ := DRs.get h2 e1
      have e3 : zx.cps[i]? = some c := by rw [← Array.getElem?_toList]; exact e2
      exact ⟨d1, .str ⟨#[c]⟩, (Option.some.inj hd).symm, fun v hv => by rw [f1] at hv; cases hv; exact f2, fun v hv => by rw [e3] at hv; cases hv; rfl⟩⟩
end DL
namespace DL
open PySem PySem.Spec PyProof.Rows L2
/-- the net of a name -/
def ntF (N : List Nm) (x : Str) : Int := ((N.find? fun q => decide (q.2 = x)).map (·.1)).getD 0
def hsN (N : List Nm) (x : Str) : Bool := decide (x ∈ N.map (·.2))
theorem hsN_iff {N : List Nm} {x : Str} : hsN N x = true ↔ ∃ q ∈ N, q.2 = x := by
  unfold hsN
  rw [decide_eq_true_iff, List.mem_map]
theorem ntF_of : ∀ {N : List Nm} {q : Nm}, (N.map (·.2)).Nodup → q ∈ N → ntF N q.2 = q.1
  | [], q, _, h => by cases h
  | p :: N, q, nd, h => by
    have nd := List.nodup_cons.mp nd
    unfold ntF
    rw [List.find?_cons]
    by_cases e : p.2 = q.2
    · rw [decide_eq_true e]
      rcases List.mem_cons.mp h with rfl | h
      · rfl
      · exact absurd (List.mem_map.mpr ⟨q, h, e.symm⟩) nd.1
    · rw [decide_eq_false e]
      rcases List.mem_cons.mp h with rfl | h
      · exact absurd rfl e
      · exact ntF_of nd.2 h
/-- a dict from names to nets -/
abbrev ndK (M : List Nm) : List Key := M.map fun q => Sum.inr q.2
abbrev ndD (M : List Nm) : D := .dk (ndK M) (M.map fun q => D.int q.1)
theorem nd_look : ∀ {M : List Nm} {q : Nm}, (M.map (·.2)).Nodup → q ∈ M → lookK (ndK M) (M.map fun q => D.int q.1) (Sum.inr q.2) = some (.int q.1)
  | [], q, _, h => by cases h
  | p :: M, q, nd, h => by
    have nd := List.nodup_cons.mp nd
    show lookK (Sum.inr p.2 :: ndK M) (.int p.1 :: M.map fun q => D.int q.1) (Sum.inr q.2) = _
    unfold lookK
    by_cases e : p.2 = q.2
    · rw [if_pos (by rw [e])]
      rcases List.mem_cons.mp h with rfl | h
      · rfl
      · exact absurd (List.mem_map.mpr ⟨q, h, e.symm⟩) nd.1
    · rw [if_neg fun z => e (Sum.inr.inj z)]
      rcases List.mem_cons.mp h with rfl | h
      · exact absurd rfl e
      · exact nd_look nd.2 h
theorem nd_has {M : List Nm} {x : Str} : hasK (ndK M) (Sum.inr x) = hsN M x := by
  rw [Bool.eq_iff_iff, hasK_iff, hsN_iff]
  constructor
  · intro h
    obtain ⟨q, hq, e⟩ := List.mem_map.mp h
    exact ⟨q, hq, Sum.inr.inj e⟩
  · rintro ⟨q, hq, rfl⟩
    exact List.mem_map.mpr ⟨q, hq, rfl⟩
theorem hsN_perm {M N : List Nm} (p : M.Perm N) (x : Str) : hsN M x = hsN N x := by
  rw [Bool.eq_iff_iff, hsN_iff, hsN_iff]
  exact ⟨fun ⟨q, hq, e⟩ => ⟨q, p.mem_iff.mp hq, e⟩, fun ⟨q, hq, e⟩ => ⟨q, p.mem_iff.mpr hq, e⟩⟩
/-- x stands in a dict of names -/
theorem nd_get {M N : List Nm} {x : Str} (p : M.Perm N) (nd : (N.map (·.2)).Nodup) (h : hsN N x = true) : lookK (ndK M) (M.map fun q => D.int q.1) (Sum.inr x) = some (.int (ntF N x)) := by
  obtain ⟨q, hq, rfl⟩ := hsN_iff.mp h
  rw [ntF_of nd hq]
  exact nd_look ((p.map _).nodup_iff.mpr nd) (p.mem_iff.mpr hq)
def splL : List (Str × Str) := [("vdd", "1"), ("gnd", "0")]
def splP (N : List Nm) (s : Str × Str) : Bool := hsN N s.1
def splG (N : List Nm) (s : Str × Str) : Int × Str := (ntF N s.1, s.2)
def splF (N : List Nm) : Fx := (splL.filter (splP N)).map (splG N)
def chS1 (c : Nat) : Str := ⟨#[c]⟩
def inpF (N : List Nm) (I : List Str) (v : Str) : Fx := (I.zip v.cps.toList).map fun p => (ntF N p.1, chS1 p.2)
def tabF (N : List Nm) (I : List Str) (v : Str) : Fx := splF N ++ inpF N I v
/-- the combinations -/
def cmbL : Nat → List Str
  | 0 => [""]
  | k + 1 => (cmbL k).flatMap fun v => [v ++ "0", v ++ "1"]
def bitC (n k i : Nat) : Nat := 48 + n / 2 ^ (k - 1 - i) % 2
theorem cmb_len : ∀ k, k < 4 → (cmbL k).length = 2 ^ k := by decide +kernel
theorem cmb_bit : ∀ k, k < 4 → ∀ n, n < 8 → n < 2 ^ k → ((cmbL k).getD n "").cps.toList = (List.range k).map (bitC n k) := by decide +kernel
theorem cmb_few : ∀ k, k < 4 → ∀ v ∈ cmbL k, v.length ≤ 3 := by decide +kernel
/-- what names are given -/
structure InOk (N : List Nm) (I : List Str) : Prop where
  nd : I.Nodup
  h : ∀ x ∈ I, hsN N x = true
  n : ∀ x ∈ I, x ≠ ("vdd" : Str) ∧ x ≠ ("gnd" : Str)
  l : I.length ≤ 3
def tbB (N : List Nm) (I : List Str) (n : Nat) (i : Nat) : Fx := (List.range i).map fun (t : Nat) => (ntF N (I.getD t ""), chS1 (bitC n I.length t))
theorem tbB_succ (N : List Nm) (I : List Str) (n i : Nat) : tbB N I n (i + 1) = tbB N I n i ++ [(ntF N (I.getD i ""), chS1 (bitC n I.length i))] := by unfold tbB; rw [List.range_succ, List.map_append]; rfl
theorem inp_law {N : List Nm} {I : List Str} (h : I.length ≤ 3) {n : Nat} (hn : n < 2 ^ I.length) : inpF N I ((cmbL I.length).getD n "") = tbB N I n I.length := by
  have h8 : n < 8 := Nat.lt_of_lt_of_le hn (by
    have : 2 ^ I.length ≤ 2 ^ 3 := Nat.pow_le_pow_right (by decide) h
    exact this)
  unfold inpF tbB
  rw [cmb_bit I.length (by omega) n h8 hn]
  refine List.ext_getElem? fun t => ?_
  rw [List.getElem?_map, List.getElem?_map]
  by_cases ht : t < I.length
  · rw [List.getElem?_zip_eq_some (z := (I[t], bitC n I.length t)) |>.mpr ⟨List.getElem?_eq_getElem ht, by rw [List.getElem?_map, List.getElem?_range ht]; rfl⟩, List.getElem?_range ht]
    show some (ntF N I[t], _) = some (ntF N (I.getD t ""), _)
    rw [List.getD_eq_getElem?_getD, List.getElem?_eq_getElem ht]; rfl
  · rw [List.getElem?_eq_none (by rw [List.length_zip]; omega), List.getElem?_eq_none (by rw [List.length_range]; omega)]
    rfl
theorem spl_in {N : List Nm} {p : Int × Str} (h : p ∈ splF N) : ∃ s ∈ splL, hsN N s.1 = true ∧ p = (ntF N s.1, s.2) := by
  unfold splF at h
  obtain ⟨s, hs, rfl⟩ := List.mem_map.mp h
  obtain ⟨h1, h2⟩ := List.mem_filter.mp hs
  exact ⟨s, h1, h2, rfl⟩
theorem ntF_inj {N : List Nm} (d1 : (N.map (·.1)).Nodup) (d2 : (N.map (·.2)).Nodup) {x y : Str} (hx : hsN N x = true) (hy : hsN N y = true) (e : ntF N x = ntF N y) : x = y := by
  obtain ⟨p, hp, rfl⟩ := hsN_iff.mp hx
  obtain ⟨q, hq, rfl⟩ := hsN_iff.mp hy
  rw [ntF_of d2 hp, ntF_of d2 hq] at e
  obtain ⟨i, hi⟩ := List.getElem?_of_mem hp
  obtain ⟨j, hj⟩ := List.getElem?_of_mem hq
  have g1 : (N.map (·.1))[i]? = some p.1 := by rw [List.getElem?_map, hi]; rfl
  have g2 : (N.map (·.1))[j]? = some p.1 := by rw [List.getElem?_map, hj, e]; rfl
  have := (List.getElem?_inj (List.getElem?_eq_some_iff.mp g1).1 d1).mp (g1.trans g2.symm)
  subst this
  rw [hi] at hj
  rw [Option.some.inj hj]
theorem spl_nd {N : List Nm} (d1 : (N.map (·.1)).Nodup) (d2 : (N.map (·.2)).Nodup) : ((splF N).map (·.1)).Nodup := by
  unfold splF
  rw [List.map_map]
  refine nodup_map_on (fun a ha b hb e => ?_) ((by unfold splL; decide +kernel : splL.Nodup).filter _)
  obtain ⟨a1, a2⟩ := List.mem_filter.mp ha
  obtain ⟨b1, b2⟩ := List.mem_filter.mp hb
  have := ntF_inj d1 d2 a2 b2 e
  unfold splL at a1 b1
  simp only [List.mem_cons, List.not_mem_nil, or_false] at a1 b1
  rcases a1 with rfl | rfl <;> rcases b1 with rfl | rfl
  · rfl
  · exact absurd this (by decide +kernel)
  · exact absurd this (by decide +kernel)
  · rfl
theorem law_nd {n : Nat} {N : List Nm} {I : List Str} (d1 : (N.map (·.1)).Nodup) (d2 : (N.map (·.2)).Nodup) (h : InOk N I) (i : Nat) (hi : i ≤ I.length) : ((splF N ++ tbB N I n i).map (·.1)).Nodup := by
  have hin : ∀ t, t < I.length → I.getD t "" ∈ I := fun t ht => by rw [List.getD_eq_getElem?_getD, List.getElem?_eq_getElem ht]; exact List.getElem_mem ht
  rw [List.map_append, List.nodup_append]
  refine ⟨spl_nd d1 d2, ?_, fun a ha b hb e => ?_⟩
  · unfold tbB
    rw [List.map_map]
    refine nodup_map_on (fun a ha b hb e => ?_) List.nodup_range
    have ha := List.mem_range.mp ha
    have hb := List.mem_range.mp hb
    have := ntF_inj d1 d2 (h.h _ (hin a (by omega))) (h.h _ (hin b (by omega))) e
    rw [List.getD_eq_getElem?_getD, List.getD_eq_getElem?_getD, List.getElem?_eq_getElem (by omega), List.getElem?_eq_getElem (by omega)] at this
    exact (List.getElem_inj h.nd).mp this
  · obtain ⟨p, hp, rfl⟩ := List.mem_map.mp ha
    obtain ⟨r, hr, rfl⟩ := List.mem_map.mp hb
    obtain ⟨s, hs, hh, rfl⟩ := spl_in hp
    unfold tbB at hr
    obtain ⟨t, ht, rfl⟩ := List.mem_map.mp hr
    have ht := List.mem_range.mp ht
    have hm := hin t (by omega)
    have e2 := ntF_inj d1 d2 hh (h.h _ hm) e
    have := h.n _ hm
    rw [← e2] at this
    unfold splL at hs
    simp only [List.mem_cons, List.not_mem_nil, or_false] at hs
    rcases hs with rfl | rfl
    · exact this.1 rfl
    · exact this.2 rfl
theorem bit_ch (n k i : Nat) : ∃ c, chS1 (bitC n k i) = ⟨#[c]⟩ ∧ (c = 48 ∨ c = 49 ∨ c = 120) := by
  refine ⟨bitC n k i, rfl, ?_⟩
  unfold bitC
  have := Nat.mod_lt (n / 2 ^ (k - 1 - i)) (show 2 > 0 by decide)
  omega
theorem law_fok {n m : Nat} {N : List Nm} {V : List Dev} {I : List Str} (ok : CirOk (n : Int) N V) (h : InOk N I) (i : Nat) (hi : i ≤ I.length) : FOk n (splF N ++ tbB N I m i) := by
  have hin : ∀ t, t < I.length → I.getD t "" ∈ I := fun t ht => by rw [List.getD_eq_getElem?_getD, List.getElem?_eq_getElem ht]; exact List.getElem_mem ht
  have nd := law_nd (n := m) ok.d1 ok.d2 h i hi
  have rng : ∀ x, hsN N x = true → 0 ≤ ntF N x ∧ ntF N x < (n : Int) := fun x hx => by
    obtain ⟨q, hq, rfl⟩ := hsN_iff.mp hx
    rw [ntF_of ok.d2 hq]; exact (ok.nm q hq).1
  have hk : ∀ p ∈ splF N ++ tbB N I m i, 0 ≤ p.1 ∧ p.1 < (n : Int) := fun p hp => by
    rcases List.mem_append.mp hp with z | z
    · obtain ⟨s, _, hh, rfl⟩ := spl_in z; exact rng _ hh
    · unfold tbB at z
      obtain ⟨t, ht, rfl⟩ := List.mem_map.mp z
      exact rng _ (h.h _ (hin t (by have := List.mem_range.mp ht; omega)))
  refine ⟨?_, hk, fun p hp => ?_, ?_⟩
  · have := nodup_inj (f := kI) (fun a b hab => kI_inj hab) nd
    rwa [List.map_map] at this
  · rcases List.mem_append.mp hp with z | z
    · obtain ⟨s, hs, _, rfl⟩ := spl_in z
      unfold splL at hs
      simp only [List.mem_cons, List.not_mem_nil, or_false] at hs
      rcases hs with rfl | rfl
      · exact ⟨49, sg_1, .inr (.inl rfl)⟩
      · exact ⟨48, sg_0, .inl rfl⟩
    · unfold tbB at z
      obtain ⟨t, _, rfl⟩ := List.mem_map.mp z
      exact bit_ch _ _ _
  · have := nodup_le (U := (List.range n).map fun (t : Nat) => (t : Int)) nd fun a ha => by
      obtain ⟨p, hp, rfl⟩ := List.mem_map.mp ha
      have := hk p hp
      exact List.mem_map.mpr ⟨p.1.toNat, List.mem_range.mpr (by omega), by omega⟩
    rwa [List.length_map, List.length_map, List.length_range] at this
/-- what a table says -/
def resS (n : Nat) (N : List Nm) (V : List Dev) (I : List Str) (x v : Str) : Str := vlS (itZ n V (tabF N I v) (n + 1)) (ntF N x)
theorem tab_law {N : List Nm} {I : List Str} (h : I.length ≤ 3) {t : Nat} {v : Str} (hv : (cmbL I.length)[t]? = some v) : tabF N I v = splF N ++ tbB N I t I.length := by
  have hlt := (List.getElem?_eq_some_iff.mp hv).1
  rw [cmb_len _ (by omega)] at hlt
  have e : (cmbL I.length).getD t "" = v := by rw [List.getD_eq_getElem?_getD, hv]; rfl
  unfold tabF
  rw [← e, inp_law h hlt]
theorem tab_fok {n : Nat} {N : List Nm} {V : List Dev} {I : List Str} (ok : CirOk (n : Int) N V) (h : InOk N I) {v : Str} (hv : v ∈ cmbL I.length) : FOk n (tabF N I v) := by
  obtain ⟨t, ht⟩ := List.getElem?_of_mem hv
  rw [tab_law h.l ht]
  exact law_fok ok h _ (Nat.le_refl _)
end DL
namespace DL
open PySem PySem.Spec PyProof.Rows L2
theorem zipS_map (I : List Str) (v : Str) : zipS (I.map D.str) v = (I.zip v.cps.toList).map fun p : Str × Nat => D.tup [.str p.1, .str ⟨#[p.2]⟩] := by
  unfold zipS
  generalize v.cps.toList = cs
  induction I generalizing cs with
  | nil => rfl
  | cons x I ih =>
    cases cs with
    | nil => rfl
    | cons c cs => simp only [List.map_cons, List.zipWith_cons_cons, List.zip_cons_cons]; rw [ih]
theorem spl_cv {M N : List Nm} (p : M.Perm N) : (splL.filter fun s => hasK (ndK M) (Sum.inr s.1)) = splL.filter (splP N) := List.filter_congr fun s _ => by rw [nd_has, hsN_perm p]; rfl
theorem tab_cat {N : List Nm} {I : List Str} {v : Str} : (((splL.filter (splP N)).map (splG N)).map fxE) ++ (((I.zip v.cps.toList).map fun p => (ntF N p.1, chS1 p.2)).map fxE) = (tabF N I v).map fxE := by
  rw [← List.map_append]; rfl
theorem cmb_step (k : Nat) : ((cmbL k).flatMap fun v => ([("0" : Str), "1"]).map fun w => D.str (v ++ w)) = (cmbL (k + 1)).map D.str := by
  show _ = ((cmbL k).flatMap fun v => [v ++ ("0" : Str), v ++ ("1" : Str)]).map D.str
  rw [List.map_flatMap]; rfl
theorem len01 {w : Str} (h : w ∈ [("0" : Str), "1"]) : w.length ≤ 1 := by
  simp only [List.mem_cons, List.not_mem_nil, or_false] at h
  rcases h with rfl | rfl <;> decide +kernel
theorem cmb_flen {k : Nat} (hk : k < 4) : ((cmbL k).flatMap fun v => ([("0" : Str), "1"]).map fun w => D.str (v ++ w)).length ≤ 16 := by
  rw [cmb_step, List.length_map]
  have : ∀ k, k < 4 → (cmbL (k + 1)).length ≤ 16 := by decide +kernel
  exact this k hk
theorem cmb_few2 {k : Nat} (hk : k < 4) : (cmbL k).length ≤ 8 := by
  have : ∀ k, k < 4 → (cmbL k).length ≤ 8 := by decide +kernel
  exact this k hk
theorem at_pw {k : Nat} (h : k < 4) : atI [D.int 1, .int 2, .int 4, .int 8] (k : Int) = some (.int ((2 ^ k : Nat) : Int)) := by
  have : k = 0 ∨ k = 1 ∨ k = 2 ∨ k = 3 := by omega
  rcases this with rfl | rfl | rfl | rfl <;> rfl
theorem at_pw3 {k : Nat} (h : k < 3) : atI [D.int 1, .int 2, .int 4] (k : Int) = some (.int ((2 ^ k : Nat) : Int)) := by
  have : k = 0 ∨ k = 1 ∨ k = 2 := by omega
  rcases this with rfl | rfl | rfl <;> rfl
theorem at_bit (n k i : Nat) : atI [D.str "0", .str "1"] ((n : Int) / ((2 ^ (k - 1 - i) : Nat) : Int) % 2) = some (.str (chS1 (bitC n k i))) := by
  have e : (n : Int) / ((2 ^ (k - 1 - i) : Nat) : Int) % 2 = ((n / 2 ^ (k - 1 - i) % 2 : Nat) : Int) := by omega
  rw [e]
  unfold bitC
  have h := Nat.mod_lt (n / 2 ^ (k - 1 - i)) (show 2 > 0 by decide)
  generalize n / 2 ^ (k - 1 - i) % 2 = b at h
  have : b = 0 ∨ b = 1 := by omega
  rcases this with rfl | rfl
  · show some (D.str "0") = some (D.str (chS1 48))
    rw [show ("0" : Str) = chS1 48 from sg_0]
  · show some (D.str "1") = some (D.str (chS1 49))
    rw [show ("1" : Str) = chS1 49 from sg_1]
/-- the supplies, one after another -/
def splI (N : List Nm) (i : Nat) : Fx := ((splL.take i).filter (splP N)).map (splG N)
theorem splI_yes {N : List Nm} {i : Nat} {s : Str × Str} (h : splL[i]? = some s) (hp : hsN N s.1 = true) : splI N (i + 1) = splI N i ++ [(ntF N s.1, s.2)] := by
  unfold splI
  rw [List.take_add_one, h]
  simp only [Option.toList, List.filter_append, List.map_append]
  rw [show List.filter (splP N) [s] = [s] by simp [splP, hp]]
  rfl
theorem splI_no {N : List Nm} {i : Nat} {s : Str × Str} (h : splL[i]? = some s) (hp : hsN N s.1 = false) : splI N (i + 1) = splI N i := by
  unfold splI
  rw [List.take_add_one, h]
  simp only [Option.toList, List.filter_append, List.map_append]
  rw [show List.filter (splP N) [s] = [] by simp [splP, hp]]
  simp
theorem splI_all (N : List Nm) : splI N splL.length = splF N := by unfold splI splF; rw [List.take_length]
theorem splI_sub (N : List Nm) (i : Nat) : (splI N i).Sublist (splF N) := by
  unfold splI splF
  exact ((List.take_sublist ..).filter _).map _
theorem spl_two {s : Str × Str} (h : s ∈ splL) : (if decide (s.1 = ("vdd" : Str)) = true then D.str "1" else D.str "0") = .str s.2 := by
  unfold splL at h
  simp only [List.mem_cons, List.not_mem_nil, or_false] at h
  rcases h with rfl | rfl
  · rw [if_pos (by decide +kernel)]
  · rw [if_neg (by decide +kernel)]
/-- a key that was not there yet -/
theorem key_new {A : Fx} {p : Int × Str} {B : Fx} (nd : ((A ++ [p] ++ B).map (·.1)).Nodup) : kI p.1 ∉ fxK A := fun h => by
  obtain ⟨r, hr, e⟩ := List.mem_map.mp h
  have e := kI_inj e
  rw [List.map_append, List.map_append, List.nodup_append] at nd
  have := (List.nodup_append.mp nd.1).2.2 r.1 (List.mem_map.mpr ⟨r, hr, rfl⟩) p.1 (by simp)
  exact this e
theorem splI_new {N : List Nm} (d1 : (N.map (·.1)).Nodup) (d2 : (N.map (·.2)).Nodup) {i : Nat} {s : Str × Str} (h : splL[i]? = some s) (hp : hsN N s.1 = true) : kI (ntF N s.1) ∉ fxK (splI N i) := by
  refine key_new (p := (ntF N s.1, s.2)) (B := []) ?_
  rw [List.append_nil, ← splI_yes h hp]
  exact (spl_nd d1 d2).sublist ((splI_sub N (i + 1)).map _)
theorem tbB_new {N : List Nm} {I : List Str} {n i : Nat} (d1 : (N.map (·.1)).Nodup) (d2 : (N.map (·.2)).Nodup) (h : InOk N I) (hi : i < I.length) : kI (ntF N (I.getD i "")) ∉ fxK (splF N ++ tbB N I n i) := by
  refine key_new (p := (ntF N (I.getD i ""), chS1 (bitC n I.length i))) (B := []) ?_
  rw [List.append_nil, List.append_assoc, ← tbB_succ]
  exact law_nd d1 d2 h (i + 1) (by omega)
theorem spl_len (N : List Nm) : (splF N).length ≤ 2 := by
  unfold splF
  rw [List.length_map]
  exact Nat.le_trans (List.length_filter_le _ _) (by unfold splL; decide)
/-- the law's values -/
def duL (n : Nat) (N : List Nm) (V : List Dev) (I : List Str) (t : Nat) : Str := itZ n V (splF N ++ tbB N I t I.length) (n + 1)
theorem duL_eq {n : Nat} {N : List Nm} {V : List Dev} {I : List Str} {x : Str} {m : Int} (h : I.length ≤ 3) (hm : ntF N x = m) : (cmbL I.length).map (fun v => D.str (resS n N V I x v)) = ((List.range (2 ^ I.length)).map fun t => vlS (duL n N V I t) m).map D.str := by
  rw [List.map_map]
  refine List.ext_getElem? fun t => ?_
  rw [List.getElem?_map, List.getElem?_map]
  have hl := cmb_len I.length (by omega)
  by_cases ht : t < 2 ^ I.length
  · have hv : (cmbL I.length)[t]? = some (cmbL I.length)[t] := List.getElem?_eq_getElem (by omega)
    rw [hv, List.getElem?_range ht]
    show some (D.str (resS n N V I x _)) = some (D.str (vlS (duL n N V I t) m))
    unfold resS duL
    rw [tab_law h hv, hm]
  · rw [List.getElem?_eq_none (by omega), List.getElem?_eq_none (by rw [List.length_range]; omega)]
    rfl
def wrdB : List Str := ["a", "b", "vdd", "c", "gnd", "y", "z", "n1", "q"]
def wrdT (c : Int) : Nat := (dr c 20 0 % 9).toNat
def wrdL (c : Int) : List Str := wrdB.drop (wrdT c) ++ wrdB.take (wrdT c)
theorem wrdT_eq (c : Int) : dr c 20 0 % 9 = (wrdT c : Int) := by
  unfold wrdT
  have := Int.emod_nonneg (dr c 20 0) (b := 9) (by decide)
  omega
theorem wrdL_perm (c : Int) : (wrdL c).Perm wrdB := by
  unfold wrdL
  refine List.perm_append_comm.trans ?_
  rw [List.take_append_drop]
theorem wrdL_len (c : Int) : (wrdL c).length = 9 := by rw [(wrdL_perm c).length_eq]; rfl
theorem wrdB_nd : wrdB.Nodup := by unfold wrdB; decide +kernel
theorem wrd_ok : ∀ x ∈ wrdB, nameB x = true ∧ x.length ≤ 3 ∧ x ≠ ("none1" : Str) ∧ x ≠ ("none2" : Str) ∧ x ≠ ("nobody" : Str) := by unfold wrdB; decide +kernel
def tnP (c : Int) (t : Nat) : Bool := decide (0 < dr c 20 (1 + (t : Int)) % 5)
def tnG (c : Int) (t : Nat) : Nm := ((t : Int), (wrdL c).getD t "")
def tn0 (c : Int) (n : Nat) : List Nm := ((List.range n).filter (tnP c)).map (tnG c)
def tnN (c : Int) (n : Nat) : List Nm := if tn0 c n = [] then [(0, "a")] else tn0 c n
theorem tn0_ok {c : Int} {n : Nat} (hn : n ≤ 9) : (∀ q ∈ tn0 c n, (0 ≤ q.1 ∧ q.1 < (n : Int)) ∧ q.2 ∈ wrdB) ∧ ((tn0 c n).map (·.1)).Nodup ∧ ((tn0 c n).map (·.2)).Nodup ∧ (tn0 c n).length ≤ n := by
  have nd := List.nodup_range.filter (tnP c) (l := List.range n)
  refine ⟨fun q hq => ?_, ?_, ?_, ?_⟩
  · unfold tn0 at hq
    obtain ⟨t, ht, rfl⟩ := List.mem_map.mp hq
    have ht := List.mem_range.mp (List.mem_filter.mp ht).1
    refine ⟨⟨by show 0 ≤ (t : Int); omega, by show (t : Int) < n; omega⟩, ?_⟩
    show (wrdL c).getD t "" ∈ wrdB
    have hl := wrdL_len c
    rw [List.getD_eq_getElem?_getD, List.getElem?_eq_getElem (by omega)]
    exact (wrdL_perm c).mem_iff.mp (List.getElem_mem _)
  · unfold tn0
    rw [List.map_map]
    exact nodup_inj (fun a b e => by have e : (a : Int) = (b : Int) := e; omega) nd
  · unfold tn0
    rw [List.map_map]
    refine nodup_map_on (fun a ha b hb e => ?_) nd
    have ha := List.mem_range.mp (List.mem_filter.mp ha).1
    have hb := List.mem_range.mp (List.mem_filter.mp hb).1
    have hl := wrdL_len c
    have e : (wrdL c).getD a "" = (wrdL c).getD b "" := e
    rw [List.getD_eq_getElem?_getD, List.getD_eq_getElem?_getD, List.getElem?_eq_getElem (by omega), List.getElem?_eq_getElem (by omega)] at e
    exact (List.getElem_inj ((wrdL_perm c).nodup_iff.mpr wrdB_nd)).mp e
  · unfold tn0
    rw [List.length_map]
    refine Nat.le_trans (List.length_filter_le _ _) ?_
    rw [List.length_range]; exact Nat.le_refl _
structure TnOk (n : Nat) (N : List Nm) : Prop where
  r : ∀ q ∈ N, (0 ≤ q.1 ∧ q.1 < (n : Int)) ∧ q.2 ∈ wrdB
  d1 : (N.map (·.1)).Nodup
  d2 : (N.map (·.2)).Nodup
  l : N.length ≤ 9
  ne : N ≠ []
theorem tnN_ok {c : Int} {n : Nat} (h2 : 1 ≤ n) (hn : n ≤ 9) : TnOk n (tnN c n) := by
  obtain ⟨a, b, d, e⟩ := tn0_ok (c := c) hn
  unfold tnN
  split
  · refine ⟨fun q hq => ?_, by simp, by simp, by simp, by simp⟩
    rw [List.mem_singleton] at hq
    subst hq
    exact ⟨⟨by decide, by show (0 : Int) < n; omega⟩, by unfold wrdB; simp⟩
  · rename_i hne
    exact ⟨a, b, d, by omega, hne⟩
theorem TnOk.cir {n : Nat} {N : List Nm} (h : TnOk n N) {V : List Dev} {N1 : List Nm} (ok : CirOk (n : Int) N1 V) : CirOk (n : Int) N V :=
  ⟨ok.nn, fun q hq => ⟨(h.r q hq).1, (wrd_ok _ (h.r q hq).2).1⟩, h.d1, h.d2, by have := h.l; omega, ok.vl, ok.dv⟩
def inpP (q : Nm) : Bool := !decide (q.2 ∈ [("vdd" : Str), "gnd"])
def inp0 (N : List Nm) : List Str := (N.filter inpP).map (·.2)
def inpT (c : Int) (N : List Nm) : Nat := (dr c 20 14 % ((inp0 N).length + 1 : Int)).toNat
def inpI (c : Int) (N : List Nm) : List Str := ((inp0 N).drop (inpT c N) ++ (inp0 N).take (inpT c N)).take (dr c 20 15 % 4).toNat
theorem inpT_eq (c : Int) (N : List Nm) : dr c 20 14 % (((inp0 N).length : Int) + 1) = (inpT c N : Int) := by
  unfold inpT
  have := Int.emod_nonneg (dr c 20 14) (b := ((inp0 N).length : Int) + 1) (by omega)
  omega
theorem inpI_ok {c : Int} {n : Nat} {N : List Nm} (h : TnOk n N) : InOk N (inpI c N) := by
  have h0 : ∀ x ∈ inp0 N, hsN N x = true ∧ x ≠ ("vdd" : Str) ∧ x ≠ ("gnd" : Str) := fun x hx => by
    unfold inp0 at hx
    obtain ⟨q, hq, rfl⟩ := List.mem_map.mp hx
    obtain ⟨h1, h2⟩ := List.mem_filter.mp hq
    unfold inpP at h2
    rw [Bool.not_eq_true', decide_eq_false_iff_not] at h2
    refine ⟨hsN_iff.mpr ⟨q, h1, rfl⟩, fun e => h2 (by rw [e]; simp), fun e => h2 (by rw [e]; simp)⟩
  have hs : ∀ x ∈ inpI c N, x ∈ inp0 N := fun x hx => by
    unfold inpI at hx
    rcases List.mem_append.mp (List.mem_of_mem_take hx) with z | z
    · exact List.mem_of_mem_drop z
    · exact List.mem_of_mem_take z
  refine ⟨?_, fun x hx => (h0 x (hs x hx)).1, fun x hx => (h0 x (hs x hx)).2, ?_⟩
  · unfold inpI
    have nd0 : (inp0 N).Nodup := by unfold inp0; exact h.d2.sublist (List.filter_sublist.map _)
    have p : ((inp0 N).drop (inpT c N) ++ (inp0 N).take (inpT c N)).Perm (inp0 N) := by
      refine List.perm_append_comm.trans ?_
      rw [List.take_append_drop]
    exact (p.nodup_iff.mpr nd0).sublist (List.take_sublist ..)
  · unfold inpI
    rw [List.length_take]
    have := Int.emod_lt_of_pos (dr c 20 15) (b := 4) (by decide)
    have := Int.emod_nonneg (dr c 20 15) (b := 4) (by decide)
    omega
theorem no_name {n : Nat} {N : List Nm} (h : TnOk n N) {x : Str} (hx : x = ("none1" : Str) ∨ x = ("none2" : Str) ∨ x = ("nobody" : Str)) : hsN N x = false := by
  cases e : hsN N x with
  | false => rfl
  | true =>
    obtain ⟨q, hq, rfl⟩ := hsN_iff.mp e
    have := wrd_ok _ (h.r q hq).2
    rcases hx with z | z | z
    · exact absurd z this.2.2.1
    · exact absurd z this.2.2.2.1
    · exact absurd z this.2.2.2.2
def exD (c : Int) (n : Nat) : Dev := ⟨"p", dr c 20 11 % n, min (dr c 20 12 % n) (dr c 20 13 % n), max (dr c 20 12 % n) (dr c 20 13 % n), 1, 1⟩
theorem exD_ok {c : Int} {n : Nat} (hn : 1 ≤ n) : DevOk (n : Int) (exD c n) := by
  have h : ∀ k, 0 ≤ dr c 20 k % (n : Int) ∧ dr c 20 k % (n : Int) < n := fun k => ⟨Int.emod_nonneg _ (by omega), Int.emod_lt_of_pos _ (by omega)⟩
  have h1 := h 12
  have h2 := h 13
  refine ⟨.inr rfl, h 11, ?_, by show (1 : Int) ≤ 1; omega, by show (1 : Int) ≤ 1; omega⟩
  show 0 ≤ min (dr c 20 12 % (n : Int)) (dr c 20 13 % n) ∧ min (dr c 20 12 % (n : Int)) (dr c 20 13 % n) ≤ max (dr c 20 12 % (n : Int)) (dr c 20 13 % n) ∧ max (dr c 20 12 % (n : Int)) (dr c 20 13 % n) < (n : Int)
  omega
end DL
namespace DL
open PySem PySem.Spec PyProof.Rows L2
theorem fd_pw (n : Nat) {m : Nat} (h : m ≤ 3) : CDiv (n : Int) ((2 ^ m : Nat) : Int) := by
  have h1 : 0 < 2 ^ m := Nat.pow_pos (by decide)
  have h2 : 2 ^ m ≤ 2 ^ 3 := Nat.pow_le_pow_right (by decide) h
  have h3 : 2 ^ 3 = 8 := rfl
  exact ⟨by omega, by omega⟩
end DL
namespace DL
theorem rng_side {m : Nat} (h : m ≤ 8) : -(2 ^ 62) ≤ (m : Int) ∧ (m : Int) < 2 ^ 62 := by omega
end DL
namespace DL
open PySem PySem.Spec PyProof.Rows L2
theorem nk_new {N : List Nm} (d2 : (N.map (·.2)).Nodup) {i : Nat} {q : Nm} (h : N[i]? = some q) : (Sum.inr q.2 : Key) ∉ ndK (N.take i) := fun hm => by
  obtain ⟨r, hr, e⟩ := List.mem_map.mp hm
  have e := Sum.inr.inj e
  obtain ⟨k, hk⟩ := List.getElem?_of_mem hr
  have hlt : k < i := by
    have := (List.getElem?_eq_some_iff.mp hk).1
    rw [List.length_take] at this; omega
  rw [List.getElem?_take_of_lt hlt] at hk
  have g1 : (N.map (·.2))[k]? = some q.2 := by rw [List.getElem?_map, hk]; exact congrArg some e
  have g2 : (N.map (·.2))[i]? = some q.2 := by rw [List.getElem?_map, h]; rfl
  have := (List.getElem?_inj (List.getElem?_eq_some_iff.mp g1).1 d2).mp (g1.trans g2.symm)
  omega
theorem tn_emp {c : Int} {n : Nat} (h : decide (((((tn0 c n).map nmE).length : Nat) : Int) = 0) = true) : tn0 c n = [] := by
  have := of_decide_eq_true h
  rw [List.length_map] at this
  exact List.length_eq_zero_iff.mp (by omega)
theorem tn_nem {c : Int} {n : Nat} (h : decide (((((tn0 c n).map nmE).length : Nat) : Int) = 0) = false) : ¬ tn0 c n = [] := fun e => by
  have := of_decide_eq_false h
  rw [e] at this
  exact this rfl
theorem un_in {N : List Nm} {I : List Str} {x : Str} (h : ∀ y ∈ I, hsN N y = true) : ∀ i z, i < I.length → (I ++ [x])[i]? = some z → hsN N z = true := fun i z hi hz => by
  rw [List.getElem?_append_left hi] at hz
  exact h z (List.mem_of_getElem? hz)
theorem un_in2 {N : List Nm} {I J : List Str} {x : Str} (h : ∀ y ∈ I, hsN N y = true) : ∀ i z, i < I.length → (I ++ J ++ [x])[i]? = some z → hsN N z = true := fun i z hi hz => by
  rw [List.append_assoc, List.getElem?_append_left hi] at hz
  exact h z (List.mem_of_getElem? hz)
theorem un_at {I : List Str} {a : Nat} {x y : Str} (h : a ≤ I.length) : (I.take a ++ [y] ++ I.drop a ++ [x])[a]? = some y := by
  rw [List.append_assoc, List.append_assoc, List.getElem?_append_right (by rw [List.length_take]; omega), List.length_take, show a - min a I.length = 0 by omega]
  rfl
theorem un_pre {N : List Nm} {I : List Str} {a : Nat} {x y : Str} (hI : ∀ y ∈ I, hsN N y = true) (h : a ≤ I.length) : ∀ i z, i < a → (I.take a ++ [y] ++ I.drop a ++ [x])[i]? = some z → hsN N z = true := fun i z hi hz => by
  rw [List.append_assoc, List.append_assoc, List.getElem?_append_left (by rw [List.length_take]; omega)] at hz
  exact hI z (List.mem_of_mem_take (List.mem_of_getElem? hz))
theorem wrd_small : ∀ x ∈ wrdB, smallStr x := by unfold wrdB smallStr; decide +kernel
theorem cm_words {n : Nat} {N : List Nm} {c : Int} (h : TnOk n N) : ∀ d ∈ (inpI c N).map D.str, Cm 1 d := fun d hd => by
  obtain ⟨y, hy, rfl⟩ := List.mem_map.mp hd
  obtain ⟨q, hq, rfl⟩ := hsN_iff.mp ((inpI_ok (c := c) h).h y hy)
  exact .str (wrd_small _ (h.r q hq).2)
end DL
namespace DL
open PySem PySem.Spec PyProof.Rows L2
local macro_rules | `(tactic| walk_at "side") => `(tactic| first | assumption | decide | omega | (simp only [List.length_map, List.length_append, List.length_cons, List.length_nil, sizeLine_eq] at *; omega))
local macro_rules | `(tactic| walk_at "len") => `(tactic| first | decide | (simp [sizeLine_eq]; done) | (simp [sizeLine_eq]; omega))
local macro_rules | `(tactic| walk_at "b2") => `(tactic| first
  | exact b2_add | exact b2_sub | exact b2_mod (by decide) | exact b2_fdiv ⟨by decide, by decide⟩
  | exact b2_mul (by first | exact Or.inr ⟨by decide, by decide⟩ | exact Or.inl ⟨by decide, by decide⟩ | exact Or.inr ⟨by omega, by omega⟩ | exact Or.inl ⟨by omega, by omega⟩)
  | exact b2_mod (by first | assumption | omega) | exact b2_fdiv ⟨by omega, by omega⟩ | exact b2_addS (by walk_at "side"))
local macro_rules | `(tactic| walk_at "c2") => `(tactic| first
  | exact c2_lt | exact c2_le | exact c2_gt | exact c2_ge | exact c2_eqI | exact c2_neI | exact c2_isN | exact c2_notN | exact c2_isB | exact c2_notB | exact c2_eqB | exact c2_neB | exact c2_eqS | exact c2_neS | exact c2_leS | exact c2_inInts | exact c2_eq2 (by assumption) | exact c2_eq4 (by assumption) | exact c2_ne2 (by assumption) | exact c2_ne4 (by assumption) | exact c2_eqInts (by assumption) | exact c2_neInts (by assumption) | exact c2_eqIntsL (by assumption) | exact c2_inSq (by assumption) | exact c2_notInSq (by assumption) | exact c2_eqBx (by assumption) | exact c2_neBx (by assumption))
local macro_rules | `(tactic| walk_at "ix") => `(tactic| first | exact IX.t0 | exact IX.t1 | exact IX.t2 | exact IX.t3 | exact IX.t4 | exact IX.t5 | exact IX.l0 | exact IX.l1 | exact IX.l2 | exact IX.l (at_draws (by first | decide | omega) (by first | decide | omega)) | exact ix_sel3 ⟨by omega, by omega⟩ | exact IX.l rfl)
local macro_rules | `(tactic| walk_at "bc") => `(tactic| first | exact bc_int | exact bc_lenL | exact bc_lenT | exact bc_tupL | exact bc_tupT | exact bc_min2 rfl | exact bc_max2 rfl)
local macro_rules | `(tactic| walk_at "bo") => `(tactic| first | exact bo_listL | exact bo_listT)
local macro_rules | `(tactic| walk_at "mk") => `(tactic| first | exact .mk _ | exact .mk _ _ | exact .mk _ _ _ | exact .mk _ _ _ _ | exact .mk _ _ _ _ _ | exact .mk _ _ _ _ _ _ | exact .mk _ _ _ _ _ _ _ | exact .mk _ _ _ _ _ _ _ _ | exact .mk)
local macro_rules | `(tactic| walk_at "kd") => `(tactic| first | exact kd_int | exact kd_bl | exact kd_str | (refine' kd_tup ?l ?c ?e ?z ?r; (case l => k_is); (case c => rfl); (case e => rfl); (case z => decide); (case r => walk_at "kds")))
local macro_rules | `(tactic| walk_at "kds") => `(tactic| first | exact kds_nil | (refine' kds_cons ?a ?b; (case a => walk_at "kd"); (case b => walk_at "kds")))
local macro_rules | `(tactic| walk_at "en") => `(tactic| simp only [en, enI, enL, List.map_cons, List.map_nil, List.length_cons, List.length_nil, List.cons_append, List.nil_append, List.replicate, Nat.add_one_sub_one, Nat.reduceAdd, Nat.reduceSub])
local macro_rules | `(tactic| walk_at "env") => `(tactic| simp only [upds, List.foldl_cons, List.foldl_nil, OC.d, List.set_cons_zero, List.set_cons_succ])
inductive R_E_UnknownName : List D → List D → Prop where
  | mk (n : Str) (h : n.length ≤ 1000) : R_E_UnknownName [.str n] [.str n]
inductive R_Groups_init : Addr → List D → (Cs → Prop) → Prop where
  | mk (a : Addr) (n : Nat) (h : n ≤ 10000) : R_Groups_init a [.int (n : Int)] (fun cs => ∃ p, cs = grpC a p (List.range n))
inductive R_Groups_root : Addr → Cs → List D → (Cs → D → Prop) → Prop where
  | mk (a p : Addr) (L : List Nat) (f : Nat → Nat) (m : Nat) (u : UF L f) (hm : m < L.length) : R_Groups_root a (grpC a p L) [.int (m : Int)] (fun cs d => ∃ L2, UF L2 f ∧ L2.length = L.length ∧ cs = grpC a p L2 ∧ d = natD (f m))
inductive R_Groups_unite : Addr → Cs → List D → (Cs → D → Prop) → Prop where
  | mk (a p : Addr) (L : List Nat) (f : Nat → Nat) (i j : Nat) (u : UF L f) (hi : i < L.length) (hj : j < L.length) : R_Groups_unite a (grpC a p L) [.int (i : Int), .int (j : Int)] (fun cs d => ∃ L2, UF L2 (uni f i j) ∧ L2.length = L.length ∧ cs = grpC a p L2 ∧ d = .non)
inductive R_Groups_indexes : Addr → Cs → List D → (Cs → D → Prop) → Prop where
  | mk (a p : Addr) (L : List Nat) (f : Nat → Nat) (u : UF L f) (hl : L.length ≤ 100000) : R_Groups_indexes a (grpC a p L) [] (fun cs d => ∃ L2, UF L2 f ∧ L2.length = L.length ∧ cs = grpC a p L2 ∧ d = .lst ((List.range L.length).map fun k => natD (gix f k)))
inductive R_links_of_l : List D → D → Prop where
  | mk (V : List Dev) (vals : Str) (cs : List Str) (n : Nat) (ok : ∀ v ∈ V, DevOk (n : Int) v) (hn : n ≤ 1000) (hl : V.length ≤ 1000) : R_links_of_l [.lst (V.map Dev.e), .lst ((valL n vals).map .str), .tup (cs.map .str)] (lkD (lnkL (cdB cs vals) V))
inductive R_pulled : List D → OC → Prop where
  | mk (L : Lk) (P : Fx) (pl : List Str) (hL : LkOk L) (hl : L.length ≤ 1000) (hb : ∀ m, (nbL L m).length ≤ 1000) : R_pulled [lkD L, fxD P, .tup (pl.map .str)] (.dk ((pulL P L pl).map kI) ((pulL P L pl).map fun _ => .bl true))
inductive R_known_values_l : List D → OC → Prop where
  | mk (V : List Dev) (P : Fx) (vals : Str) (n : Nat) (ok : ∀ v ∈ V, DevOk (n : Int) v) (hn : n ≤ 1000) (hl : V.length ≤ 200) : R_known_values_l [.lst (V.map Dev.e), fxD P, .lst ((valL n vals).map .str)] (.dk (fxK (knw P V vals)) ((knw P V vals).map fun p => .str p.2))
inductive R_device_groups : List D → OC → Prop where
  | mk (n : Nat) (N : List Nm) (V : List Dev) (P : Fx) (ok : ∀ v ∈ V, DevOk (n : Int) v) (hn : n ≤ 200) (hl : V.length ≤ 200) : R_device_groups [cirD (n : Int) N V, fxD P] (.lst ((grL P V).map fun G => D.lst (G.map Dev.e)))
inductive R_indexes_by_gate : List D → D → Prop where
  | mk (Gs : List (List Dev)) (hl : Gs.length ≤ 200) (hG : ∀ G ∈ Gs, G.length ≤ 200) : R_indexes_by_gate [.lst (Gs.map fun G : List Dev => D.lst (G.map Dev.e))] (lkD (watL Gs))
inductive R_settle : List D → D → Prop where
  | mk (n : Nat) (N : List Nm) (V : List Dev) (P : Fx) (ok : ∀ v ∈ V, DevOk (n : Int) v) (hFO : FOk n P) (hn : n ≤ 60) (hl : V.length ≤ 60) : R_settle [cirD (n : Int) N V, .lst (P.map fxE)] (.str (itZ n V P (n + 1)))
inductive R_combinations_of : List D → D → Prop where
  | mk (k : Nat) (hk : k ≤ 3) : R_combinations_of [.int (k : Int)] (.lst ((cmbL k).map .str))
inductive R_table : List D → D → Prop where
  | mk (n : Nat) (N : List Nm) (V : List Dev) (I : List Str) (x0 : Str) (ok : CirOk (n : Int) N V) (hI : InOk N I) (hx : hsN N x0 = true) (hn : n ≤ 60) (hl : V.length ≤ 60) : R_table [cirD (n : Int) N V, .lst (I.map .str), .str x0] (.lst ((cmbL I.length).map fun v => .str (resS n N V I x0 v)))
inductive R_is_name : List D → D → Prop where
  | mk (x : Str) (h : x.length ≤ sizeLine) : R_is_name [.str x] (.bl (nameB x))
inductive R_is_net_count : List D → D → Prop where
  | mk (n : Int) : R_is_net_count [.int n] (.bl (decide (0 ≤ n) && decide (n ≤ 200)))
inductive R_is_device : List D → D → Prop where
  | mk (v : Dev) (n : Int) (b : Bool) (h : b = devB n v) : R_is_device [v.e, .int n] (.bl b)
inductive R_are_names : List D → D → Prop where
  | mk (d : D) (N : List Nm) (n : Int) (hd : SeqD d (N.map nmE)) (h : N.length ≤ 1000) (hz : ∀ q ∈ N, q.2.length ≤ 1000) : R_are_names [d, .int n] (.bl (namesB N n))
inductive R_Circuit_init : List D → List Str → List D → Prop where
  | mk (n : Int) (N : List Nm) (V : List Dev) (dN dV : D) (hN : SeqD dN (N.map nmE)) (hV : SeqD dV (V.map Dev.e)) (ok : CirOk n N V) : R_Circuit_init [.int n, dN, dV] ["net_count", "names", "devices", "_name_table"] (cirV n N V)
inductive R_Circuit_eq : List D → D → Prop where
  | mk (n m : Int) (N M : List Nm) (V W : List Dev) (ok : CirOk n N V) (ok2 : CirOk m M W) : R_Circuit_eq [cirD n N V, cirD m M W] (.bl (cirEq n N V m M W))
inductive R_law_cell : List D → D → Prop where
  | mk (ns : List Int) (k : Int) (h : 0 ≤ k) : R_law_cell [.lst (ns.map .int), .int k] (.int (cellAt ns k))
inductive R_law_draws : List D → D → Prop where
  | mk (c n : Int) (h : 0 ≤ n) (h2 : n ≤ 1000) : R_law_draws [.int c, .int n] (.lst ((draws c n).map .int))
inductive R_law_is_text : List D → D → Prop where
  | mk (z : Str) : R_law_is_text [.str z, .str z] (.bl true)
inductive R_law_is_texts : List D → D → Prop where
  | mk (zs : List Str) (h : zs.length ≤ 1000) : R_law_is_texts [.lst (zs.map .str), .lst (zs.map .str), .str "list"] (.bl true)
inductive R_law_name : List D → D → Prop where
  | mk (d : Int) (h : 0 ≤ d) : R_law_name [.int d] (.str (nmOf d))
inductive R_law_qcircuit : List D → D → Prop where
  | mk (c nets most : Int) (h : 0 ≤ nets ∧ nets ≤ 60) (h2 : 0 ≤ most ∧ most ≤ 60) : R_law_qcircuit [.int c, .int nets, .int most] (.tup [.int (qCnt c nets most), .lst ((cN c nets most).map nmE), .lst ((cV c nets most).map Dev.e)])
inductive R_law_qreach : List D → D → Prop where
  | mk (n : Nat) (V : List Dev) (P : Fx) (vals starts levels : Str) (ok : ∀ v ∈ V, DevOk n v) (hv : (vals.cps.toList.length : Int) = n) (hs : Sgn vals) (hk : ∀ p ∈ P, 0 ≤ p.1 ∧ p.1 < (n : Int)) (hn : n ≤ 200) (hl : V.length ≤ 200) (hpl : P.length ≤ 200) : R_law_qreach [.int n, .lst (V.map Dev.e), fxD P, .str vals, .str starts, .str levels] (.lst ((rchL n V P vals starts levels).map .bl))
inductive R_law_qnext : List D → D → Prop where
  | mk (n : Nat) (V : List Dev) (P : Fx) (vals : Str) (ok : ∀ v ∈ V, DevOk n v) (hv : (vals.cps.toList.length : Int) = n) (hs : Sgn vals) (hk : ∀ p ∈ P, 0 ≤ p.1 ∧ p.1 < (n : Int)) (hn : n ≤ 200) (hl : V.length ≤ 200) (hpl : P.length ≤ 200) (hP : ∀ p ∈ P, p.2.length ≤ 1) : R_law_qnext [.int n, .lst (V.map Dev.e), fxD P, .str vals] (.str (accS (qnL n V P vals n)))
inductive R_law_qsettle : List D → D → Prop where
  | mk (n : Nat) (V : List Dev) (P : Fx) (ok : ∀ v ∈ V, DevOk n v) (hFO : FOk n P) (hn : n ≤ 200) (hl : V.length ≤ 200) : R_law_qsettle [.int n, .lst (V.map Dev.e), fxD P] (.str (itZ n V P (n + 1)))
inductive R_law_unknown : List D → D → Prop where
  | mk (n : Nat) (N : List Nm) (V : List Dev) (I : List Str) (x0 : Str) (k9 : Nat) (y : Str) (ok : CirOk (n : Int) N V) (hk9 : (I ++ [x0])[k9]? = some y) (hy : hsN N y = false) (hb : ∀ i z, i < k9 → (I ++ [x0])[i]? = some z → hsN N z = true) (hIl : I.length ≤ 100) (hyl : y.length ≤ 1000) : R_law_unknown [cirD (n : Int) N V, .lst (I.map .str), .str x0] (.str y)
inductive R_law_values : List D → D → Prop where
  | mk (n : Nat) (N : List Nm) (V : List Dev) (I : List Str) (ok : CirOk (n : Int) N V) (hI : InOk N I) (hn : n ≤ 60) (hl : V.length ≤ 60) : R_law_values [.int (n : Int), .lst (V.map Dev.e), ndD N, .lst (I.map .str)] (.lst ((List.range (2 ^ I.length)).map fun t => .str (duL n N V I t)))
abbrev R_law := RLaw
inductive RX_table : List D → Err → Prop where
  | mk (n : Nat) (N : List Nm) (V : List Dev) (I : List Str) (x0 : Str) (k9 : Nat) (y : Str) (ok : CirOk (n : Int) N V) (hk9 : (I ++ [x0])[k9]? = some y) (hy : hsN N y = false) (hb : ∀ i z, i < k9 → (I ++ [x0])[i]? = some z → hsN N z = true) (hIl : I.length ≤ 100) (hyl : y.length ≤ 1000) : RX_table [cirD (n : Int) N V, .lst (I.map .str), .str x0] (errF "UnknownName" ["name"] [.str y])
def top (i : Nat) : Stmt := PySem.Challenge.pw_reticle_k88_tables_of_circuits.main.body.getD i (.Pass ⟨0, 0, 0, 0⟩)
structure Bt (mg : Str → Option Value) : Prop where
  «all» : mg "all" = none
  «dict» : mg "dict" = none
  «enumerate» : mg "enumerate" = none
  «int» : mg "int" = none
  «isinstance» : mg "isinstance" = none
  «len» : mg "len" = none
  «list» : mg "list" = none
  «max» : mg "max" = none
  «min» : mg "min" = none
  «range» : mg "range" = none
  «set» : mg "set" = none
  «sorted» : mg "sorted" = none
  «str» : mg "str" = none
  «tuple» : mg "tuple" = none
  «zip» : mg "zip" = none
structure Kt (K : PySem.W.Frag) (mg : Str → Option Value) : Prop where
  «KINDS» : Cst K mg "KINDS" (.tup [.str "n", .str "p"])
  «MOST_CHARACTERS» : Cst K mg "MOST_CHARACTERS" (.int 12)
  «MOST_DEVICES» : Cst K mg "MOST_DEVICES" (.int 200)
  «MOST_NETS» : Cst K mg "MOST_NETS" (.int 200)
  «PERHAPS» : Cst K mg "PERHAPS" (.tup [.str "n1", .str "nx", .str "p0", .str "px"])
  «SUPPLIES» : Cst K mg "SUPPLIES" (.tup [.tup [.str "vdd", .str "1"], .tup [.str "gnd", .str "0"]])
  «SURE» : Cst K mg "SURE" (.tup [.str "n1", .str "p0"])
structure Lt (K : PySem.W.Frag) (mg : Str → Option Value) : Prop where
  «Groups» : Kl K mg "Groups" ["_links"]
  «Circuit» : Kl K mg "Circuit" ["net_count", "names", "devices", "_name_table"]
structure Xt (K : PySem.W.Frag) (mg : Str → Option Value) : Prop where
  «m2» : Xm K mg "UnknownName" "UnknownName"
  «f1» : Xf K "UnknownName" ["name"]
section
variable {P : Program} {w : World} {K : PySem.W.Frag} {mg : Str → Option Value} {base : Heap}
abbrev s_E_UnknownName : Stmt := inClass (top 4) 0
def F_E_UnknownName (cc c : Addr) : NdefX.NF := ⟨"__init__", "UnknownName.__init__", defArgs s_E_UnknownName, defBody s_E_UnknownName, defScope s_E_UnknownName, [("__class__", cc)], c⟩
theorem okE_UnknownName {C fI cc c : Addr} (S : SupK P K mg C fI cc c (F_E_UnknownName cc c)) (T : L2.OexC K C) (hf1 : PySem.W.findIn K (.ref C) "name" = some none) {dV kV doc pm ct oc : Value} {ann od : Option Addr} {osl : Array (Option Value)}
    (lk : K.lookup fI = some ⟨oc, od, .func (PySem.W.fnX "__init__" "UnknownName.__init__" (defArgs s_E_UnknownName) (defBody s_E_UnknownName) (defScope s_E_UnknownName) [("__class__", cc)] dV kV doc pm ann (.ref c) ct), osl⟩) :
    FnOk P w K mg base CX0 1 fI (PySem.W.fnX "__init__" "UnknownName.__init__" (defArgs s_E_UnknownName) (defBody s_E_UnknownName) (defScope s_E_UnknownName) [("__class__", cc)] dV kV doc pm ann (.ref c) ct) ["self", "name"] (spE K C ["name"] R_E_UnknownName) := by
  refine fn_okE1 (F := F_E_UnknownName cc c) (N := ["self", "name", "__class__"]) (ps := ["self", "name"]) (k := 0) S T (NdefX.nscope_by (show NdefX.nscB ["self", "name", "__class__"] ["self", "name"] ["__class__"] (defScope s_E_UnknownName) = true by decide +kernel)) rfl (by simp) (fun ds es h => by cases h; rfl) rfl hf1 rfl rfl rfl (fun _ => rfl) (fun _ => rfl) (fun _ => rfl) (fun _ => rfl) (fun _ => rfl) (fun a ds es hR A outer s H E hr => ?_) lk
  rcases hR with ⟨n, hn⟩
  walk_at "en"
  exact ⟨_, _, (ed_fs (fs_cons ed_str (fs_cons (by first | exact fm_s (ed_var 1 rfl) (by rw [sizeLine_eq]; omega) | exact fm_i (ed_var 1 rfl) (by walk_at "side")) fs_nil)) (by simp only [sumL_cons, show sumL ([] : List Str) = 0 from rfl]; have e : ("there is no net called " : Str).length = 23 := (by decide +kernel); rw [e, sizeLine_eq]; omega)), (ed_var 1 rfl), (ed_var 0 rfl), rfl⟩
abbrev s_Groups_init : Stmt := inClass (top 6) 0
theorem sc_Groups_init : FnScope ["self", "count"] ["self", "count"] (defScope s_Groups_init) := ⟨rfl, rfl, rfl, by decide +kernel, rfl, by decide +kernel, by decide +kernel⟩
theorem ok_Groups_init {f : Addr} {fd : FuncData} (F : Fun K "__init__" "Groups.__init__" s_Groups_init f fd) (B : Bt mg) (KC : Kt K mg) (KL : Lt K mg) (XF : Xt K mg)  :
    FnOk P w K mg base CX0 1 f fd ["self", "count"] (spIL K "Groups" R_Groups_init) := by
  refine fn_okIL (k := 0) F sc_Groups_init (fun a ds Ψ h => by cases h; rfl) fun a0 ds Ψ hR cdv A outer s H E hr => ?_
  have nd := sc_Groups_init.nd
  have hu := hr.units
  rcases hR with ⟨n, hn⟩
  walk_at "en"
  refine ws_cons (ws_setFO 0 KL.«Groups» rfl (EO.eq (c' := .lst ((List.range n).map natD)) (eo_listRg1 rfl (by rfl) B.«list» (by rfl) B.«range» (ed_var 1 rfl) (by omega) (by omega)) (by first | rfl | (rw [Int.toNat_natCast, rngD0]; rfl) | (rw [Int.toNat_natCast]; rfl))) fun q1 => ?_)
  simp only [List.cons_append, List.nil_append]
  walk_at "env"
  refine ws_nil ?_
  refine ⟨_, _, _, rfl, rfl, ?_⟩
  exact ⟨_, rfl⟩
abbrev s_Groups_root : Stmt := inClass (top 6) 1
theorem sc_Groups_root : FnScope ["self", "number", "at"] ["self", "number"] (defScope s_Groups_root) := ⟨rfl, rfl, rfl, by decide +kernel, rfl, by decide +kernel, by decide +kernel⟩
theorem ok_Groups_root {f : Addr} {fd : FuncData} (F : Fun K "root" "Groups.root" s_Groups_root f fd) (B : Bt mg) (KC : Kt K mg) (KL : Lt K mg) (XF : Xt K mg)  :
    FnOk P w K mg base CX0 1 f fd ["self", "number"] (spL K R_Groups_root) := by
  refine fn_okL (k := 0) F sc_Groups_root (fun a cs ds Ψ h => by cases h; rfl) fun a0 cs0 ds Ψ hR cdv A outer s H E hr => ?_
  have nd := sc_Groups_root.nd
  have hu := hr.units
  rcases hR with ⟨p, L, f, m, u, hm⟩
  walk_at "en"
  refine ws_cons (ws_set 2 nd (ed_var 1 rfl) ?_)
  walk_at "env"
  refine ws_cons (ws_whileU (γ := List Nat × Nat) (U := Unit) (fun g u => [(0, .ox (grpC a0 p g.1) (.ad a0)), (2, .sh (.int (g.2 : Nat)))]) (fun r => ()) (fun g => UF g.1 f ∧ g.1.length = L.length ∧ g.2 < L.length ∧ f g.2 = f m) (fun g => g.2) ((L, m)) (rfl) (⟨u, rfl, hm, rfl⟩) ?_)
  intro gw0 uw0 hW0
  walk_at "env"
  obtain ⟨u1, l1, b1, e1⟩ := hW0
  have hat : gw0.2 < gw0.1.length := by omega
  refine ⟨_, (td_cmp (ED.eq (ed_ixA (cell_at 0 rfl (List.mem_iff_getElem?.mpr ⟨1, rfl⟩)) (ed_fldC 0 0 KL.«Groups» rfl (List.mem_iff_getElem?.mpr ⟨0, rfl⟩) (ed_varX 0 rfl)) (ed_var 2 rfl) (at_lnk hat)) (show _ = D.int ((gw0.1.getD gw0.2 0 : Nat) : Int) from rfl)) (ed_var 2 rfl) (by walk_at "c2")), fun hw0 => ?_, fun hw0 => ?_⟩
  · skip
    have hne : gw0.1.getD gw0.2 0 ≠ gw0.2 := fun z => by rw [z] at hw0; simp at hw0
    obtain ⟨v, hv⟩ : ∃ v, v = gw0.1.getD (gw0.1.getD gw0.2 0) 0 := ⟨_, rfl⟩
    obtain ⟨u2, b2, e2⟩ := u1.halve hat hne
    have b3 := u1.le _ hat
    rw [← hv] at u2 b2 e2
    refine ws_cons (ws_lputI 0 1 (q := gw0.2) rfl rfl (ed_fldC 0 0 KL.«Groups» rfl (List.mem_iff_getElem?.mpr ⟨0, rfl⟩) (ed_varX 0 rfl)) (ed_var 2 rfl) (ED.eq (d' := natD v) (ed_ixA (cell_at 0 rfl (List.mem_iff_getElem?.mpr ⟨1, rfl⟩)) (ed_fldC 0 0 KL.«Groups» rfl (List.mem_iff_getElem?.mpr ⟨0, rfl⟩) (ed_varX 0 rfl)) (ED.eq (ed_ixA (cell_at 0 rfl (List.mem_iff_getElem?.mpr ⟨1, rfl⟩)) (ed_fldC 0 0 KL.«Groups» rfl (List.mem_iff_getElem?.mpr ⟨0, rfl⟩) (ed_varX 0 rfl)) (ed_var 2 rfl) (at_lnk hat)) (show _ = D.int ((gw0.1.getD gw0.2 0 : Nat) : Int) from rfl)) (at_lnk (by omega))) (by rw [hv])) (ixN_nat (by rw [List.length_map]; exact hat)) ?_)
    walk_at "env"
    refine ws_cons (ws_set 2 nd (ED.eq (d' := .int (v : Int)) (ed_ixA (ds := (gw0.1.set gw0.2 v).map natD) (cell_at 0 rfl (List.mem_iff_getElem?.mpr ⟨1, by rw [List.map_set]; rfl⟩)) (ed_fldC 0 0 KL.«Groups» rfl (List.mem_iff_getElem?.mpr ⟨0, rfl⟩) (ed_varX 0 rfl)) (ed_var 2 rfl) (at_lnk (by rw [List.length_set]; exact hat))) (by rw [getD_set hat, if_pos rfl]; rfl)) ?_)
    walk_at "env"
    refine ws_nil ?_
    exact ⟨(gw0.1.set gw0.2 v, v), by simp only [upds, List.foldl_cons, List.foldl_nil, List.set_cons_zero, List.set_cons_succ]; rw [← List.map_set], ⟨u2, by rw [List.length_set]; exact l1, by omega, by rw [e2]; exact e1⟩, b2⟩
  · skip
    have hev : gw0.1.getD gw0.2 0 = gw0.2 := by
      rw [Bool.not_eq_false'] at hw0
      have := of_decide_eq_true hw0
      omega
    have hrt := u1.rt _ hat hev
    refine ws_cons (ws_retC 0 (ed_var 2 rfl) rfl (Or.inl ⟨_, _, rfl, ?_⟩))
    exact ⟨gw0.1, u1, l1, rfl, by rw [← e1, hrt]; rfl⟩
abbrev s_Groups_unite : Stmt := inClass (top 6) 2
theorem sc_Groups_unite : FnScope ["self", "number", "other", "smaller", "greater"] ["self", "number", "other"] (defScope s_Groups_unite) := ⟨rfl, rfl, rfl, by decide +kernel, rfl, by decide +kernel, by decide +kernel⟩
theorem ok_Groups_unite {f : Addr} {fd : FuncData} (F : Fun K "unite" "Groups.unite" s_Groups_unite f fd) (B : Bt mg) (KC : Kt K mg) (KL : Lt K mg) (XF : Xt K mg) (G_Groups_root : FnML P w K mg base "Groups" "root" 1 R_Groups_root) :
    FnOk P w K mg base CX0 2 f fd ["self", "number", "other"] (spL K R_Groups_unite) := by
  refine fn_okL (k := 1) F sc_Groups_unite (fun a cs ds Ψ h => by cases h; rfl) fun a0 cs0 ds Ψ hR cdv A outer s H E hr => ?_
  have nd := sc_Groups_unite.nd
  have hu := hr.units
  rcases hR with ⟨p, L, f, i, j, u, hi, hj⟩
  walk_at "en"
  refine ws_cons (ws_unpackP (ep_sorted2 (Ψ2 := fun _ _ d2 ρ2 => ∃ L2, UF L2 f ∧ L2.length = L.length ∧ d2 = natD (f j) ∧ ρ2 = [Sl.ox (grpC a0 p L2) (.ad a0), .sh (.int (i : Int)), .sh (.int (j : Int)), .no, .no]) (by rfl) B.«sorted» (ep_methW 0 G_Groups_root (hr.mono (by decide)) rfl (List.mem_iff_getElem?.mpr ⟨0, rfl⟩) (ed_varX 0 rfl) (ad_cons (ed_var 1 rfl) ad_nil) (.mk a0 p L f i u hi)) (fun d1 ρ1 hw => by
    obtain ⟨_, ⟨L1, u1, l1, rfl, rfl⟩, rfl⟩ := hw
    exact ep_mono (ep_methW 0 G_Groups_root (hr.mono (by decide)) rfl (List.mem_iff_getElem?.mpr ⟨0, rfl⟩) (ed_varX 0 rfl) (ad_cons (ed_var 2 rfl) ad_nil) (.mk a0 p L1 f j u1 (by omega))) (fun d2 ρ2 hw2 => by
      obtain ⟨_, ⟨L2, u2, l2, rfl, rfl⟩, rfl⟩ := hw2
      exact ⟨L2, u2, by omega, rfl, rfl⟩)) (fun d1 ρ1 hw => by
    obtain ⟨_, ⟨L1, u1, l1, rfl, rfl⟩, rfl⟩ := hw
    exact ⟨_, rfl⟩) (fun d1 ρ1 d2 ρ2 hw => by
    obtain ⟨L2, u2, l2, rfl, rfl⟩ := hw
    exact ⟨_, rfl⟩)) ?_)
  rintro _ _ ⟨x, y, ρ1, ⟨_, ⟨L1, u1, l1, rfl, e1⟩, rfl⟩, ⟨L2, u2, l2, e2, rfl⟩, rfl⟩
  cases e1; cases e2
  refine ⟨_, _, dg_unl rfl (dgs_cons (dg_name 3 nd) (dgs_cons (dg_name 4 nd) dgs_nil)), ?_⟩
  walk_at "env"
  have u3 := u2.unite (show i < L2.length by omega) (show j < L2.length by omega)
  have hli := u2.lo i
  have hlj := u2.lo j
  have hmx : max (f i) (f j) < L2.length := by omega
  refine ws_cons (ws_lputI 0 1 (q := max (f i) (f j)) (d := natD (min (f i) (f j))) rfl rfl (ed_fldC 0 0 KL.«Groups» rfl (List.mem_iff_getElem?.mpr ⟨0, rfl⟩) (ed_varX 0 rfl)) (ED.eq (ed_var 4 rfl) (show _ = D.int ((max (f i) (f j) : Nat) : Int) by rw [nat_max])) (ED.eq (ed_var 3 rfl) (show _ = D.int ((min (f i) (f j) : Nat) : Int) by rw [nat_min])) (ixN_nat (by rw [List.length_map]; exact hmx)) ?_)
  walk_at "env"
  refine ws_nil ?_
  refine Or.inr ⟨_, _, _, rfl, rfl, ?_⟩
  exact ⟨_, u3, by rw [List.length_set]; exact l2, by rw [← List.map_set], by first | rfl | trivial⟩
abbrev s_Groups_indexes : Stmt := inClass (top 6) 3
theorem sc_Groups_indexes : FnScope ["self", "found", "group_count", "number", "root"] ["self"] (defScope s_Groups_indexes) := ⟨rfl, rfl, rfl, by decide +kernel, rfl, by decide +kernel, by decide +kernel⟩
theorem ok_Groups_indexes {f : Addr} {fd : FuncData} (F : Fun K "indexes" "Groups.indexes" s_Groups_indexes f fd) (B : Bt mg) (KC : Kt K mg) (KL : Lt K mg) (XF : Xt K mg) (G_Groups_root : FnML P w K mg base "Groups" "root" 1 R_Groups_root) :
    FnOk P w K mg base CX0 2 f fd ["self"] (spL K R_Groups_indexes) := by
  refine fn_okL (k := 1) F sc_Groups_indexes (fun a cs ds Ψ h => by cases h; rfl) fun a0 cs0 ds Ψ hR cdv A outer s H E hr => ?_
  have nd := sc_Groups_indexes.nd
  have hu := hr.units
  rcases hR with ⟨p, L, f, u, hl⟩
  walk_at "en"
  refine ws_cons (ws_setO 1 nd (eo_lst ad_nil) ?_)
  walk_at "env"
  refine ws_cons (ws_set 2 nd ed_int ?_)
  walk_at "env"
  refine ws_cons (ws_forX (List.range (L.length)) (fun (i : Nat) => D.int (i : Int)) rfl (id_range1 (by rfl) B.«range» (ed_lenA (cell_at 0 rfl (List.mem_iff_getElem?.mpr ⟨1, rfl⟩)) (by rfl) B.«len» (ed_fldC 0 0 KL.«Groups» rfl (List.mem_iff_getElem?.mpr ⟨0, rfl⟩) (ed_varX 0 rfl))) (by rw [List.length_map]; omega)) (by rw [List.length_map, Int.toNat_natCast]; exact rngD0 _) (γ := List Nat) (U := Sl × Sl) (fun i g u => [(0, .ox (grpC a0 p g) (.ad a0)), (1, .ow (.lst ((List.range i).map fun k => natD (gix f k)))), (2, .sh (.int ((List.range i).countP (fun j => decide (f j = j)) : Nat))), (3, u.1), (4, u.2)]) (fun r => (r.getD 3 .no, r.getD 4 .no)) (fun i g => UF g f ∧ g.length = L.length) (L) rfl (⟨u, rfl⟩) ?_ ?_)
  · intro i0 t g0 u0 hx0 hP0
    obtain rfl : i0 = t := by
      obtain ⟨hl, he⟩ := List.getElem?_eq_some_iff.mp hx0
      rw [List.getElem_range] at he; exact he
    have hi0 : i0 < L.length := by have := (List.getElem?_eq_some_iff.mp hx0).1; rwa [List.length_range] at this
    obtain ⟨u0, l0⟩ := hP0
    refine ⟨_, _, (dg_name 3 nd), ?_⟩
    walk_at "env"
    refine ws_cons (ws_setP 4 nd (ep_methW 0 G_Groups_root (hr.mono (by decide)) rfl (List.mem_iff_getElem?.mpr ⟨0, rfl⟩) (ed_varX 0 rfl) (ad_cons (ed_var 3 rfl) ad_nil) (.mk a0 p g0 f i0 u0 (by omega))) ?_)
    rintro _ _ ⟨_, ⟨L1, u1, l1, rfl, rfl⟩, rfl⟩
    walk_at "env"
    refine ws_cons (ws_if (td_cmp (ED.eq (ed_var 4 rfl) (show _ = D.int (f i0 : Int) from rfl)) (ed_var 3 rfl) c2_eqI (by rfl)) (fun hc1 => ?_) (fun hc1 => ?_))
    · skip
      have hrt : f i0 = i0 := by have := of_decide_eq_true hc1; omega
      have hgx : gix f i0 = (List.range i0).countP (fun j => decide (f j = j)) := by unfold gix; rw [hrt]
      refine ws_cons (ws_append 1 rfl (ed_var 2 rfl) (by rw [List.length_map, List.length_range, sizeLine_eq]; omega) ?_ (fun h => ps_expr (pe_bm PySem.F.plainAttrs_list PySem.F.slot_list_append PySem.F.type_list_append mt_append (pv 1) h)))
      walk_at "env"
      refine ws_cons (ws_aug 2 nd rfl ed_int ?_)
      walk_at "env"
      refine ws_nil ?_
      refine ws_nil ?_
      refine ⟨L1, ?_, u1, by omega⟩
      rw [gix_app, cnt_app]
      first
        | (rw [if_pos hrt, hgx]; rfl)
        | (rw [if_neg hrt, ← hgx]; rfl)
    · skip
      have hrt : ¬ f i0 = i0 := by have := of_decide_eq_false hc1; omega
      have hlt : f i0 < i0 := by have := u0.lo i0; omega
      have hgx : gix f (f i0) = gix f i0 := by unfold gix; rw [u0.id]
      refine ws_cons (ws_append 1 rfl (ed_ixO 1 rfl (ED.eq (ed_var 4 rfl) (show _ = D.int (f i0 : Int) from rfl)) (at_gix hlt)) (by rw [List.length_map, List.length_range, sizeLine_eq]; omega) ?_ (fun h => ps_expr (pe_bm PySem.F.plainAttrs_list PySem.F.slot_list_append PySem.F.type_list_append mt_append (pv 1) h)))
      walk_at "env"
      refine ws_nil ?_
      refine ws_nil ?_
      refine ⟨L1, ?_, u1, by omega⟩
      rw [gix_app, cnt_app]
      first
        | (rw [if_pos hrt, hgx]; rfl)
        | (rw [if_neg hrt, ← hgx]; rfl)
  · intro g0 u0 hP0
    walk_at "env"
    obtain ⟨u0, l0⟩ := hP0
    rw [List.length_range]
    refine ws_share 1 rfl ?_
    walk_at "env"
    refine ws_cons (ws_retC 0 (ed_var 1 rfl) rfl (Or.inl ⟨_, _, rfl, ?_⟩))
    exact ⟨g0, u0, l0, rfl, rfl⟩
abbrev s_links_of_l : Stmt := top 11
theorem sc_links_of_l : FnScope ["devices", "values", "conducting", "links", "kind", "gate", "end", "other", "_"] ["devices", "values", "conducting"] (defScope s_links_of_l) := ⟨rfl, rfl, rfl, by decide +kernel, rfl, by decide +kernel, by decide +kernel⟩
theorem ok_links_of_l {f : Addr} {fd : FuncData} (F : Fun K "links_of" "links_of" s_links_of_l f fd) (B : Bt mg) (KC : Kt K mg) (KL : Lt K mg) (XF : Xt K mg)  :
    FnOk P w K mg base CX0 1 f fd ["devices", "values", "conducting"] (spR K R_links_of_l) := by
  refine fn_ok (k := 0) F sc_links_of_l (fun ds d h => by cases h; rfl) fun ds d hR cdv A outer s H E hr => ?_
  have nd := sc_links_of_l.nd
  have hu := hr.units
  rcases hR with ⟨V, vals, cs, n, ok, hn, hl⟩
  walk_at "en"
  refine ws_cons (ws_setO 3 nd eo_dk ?_)
  walk_at "env"
  refine ws_tell 3 rfl fun a1 => ?_
  walk_at "env"
  refine ws_cons (ws_forX (V) (Dev.e) rfl (id_list (ed_var 0 rfl)) (by rfl) (γ := List Addr) (U := Sl × Sl × Sl × Sl × Sl) (fun i g u => [(3, .ox (lkC a1 g (lnkL (cdB cs vals) (V.take i))) (.ad a1)), (4, u.1), (5, u.2.1), (6, u.2.2.1), (7, u.2.2.2.1), (8, u.2.2.2.2)]) (fun r => (r.getD 4 .no, r.getD 5 .no, r.getD 6 .no, r.getD 7 .no, r.getD 8 .no)) (fun i g => g.length = (lnkL (cdB cs vals) (V.take i)).length ∧ (a1 :: g).Nodup) ([]) rfl (⟨rfl, by simp⟩) ?_ ?_)
  · intro i0 v g0 u0 hx0 hP0
    obtain ⟨l0, n0⟩ := hP0
    have okv := ok v (List.mem_of_getElem? hx0)
    have hsn : lnkL (cdB cs vals) (V.take (i0 + 1)) = lnkS (cdB cs vals) (lnkL (cdB cs vals) (V.take i0)) v := by rw [List.take_add_one, hx0]; exact lnkL_snoc ..
    refine ⟨_, _, (dg_tup rfl (dgs_cons (dg_name 4 nd) (dgs_cons (dg_name 5 nd) (dgs_cons (dg_name 6 nd) (dgs_cons (dg_name 7 nd) (dgs_cons (dg_name 8 nd) (dgs_cons (dg_name 8 nd) dgs_nil))))))), ?_⟩
    walk_at "env"
    refine ws_cons (ws_if (td_cmp (ed_bin (ed_var 4 rfl) (ed_ix (d := .str (vlS vals v.g)) (ed_var 1 rfl) (ed_var 5 rfl) (.l (valL_at okv.g.1 okv.g.2))) (b2_addS (by have := kd_len okv; rw [show (vlS vals v.g).length = 1 from rfl, sizeLine_eq]; omega))) (ed_var 2 rfl) (c2_inStr (ys := cs) (.tup _)) (by rfl)) (fun hc1 => ?_) (fun hc1 => ?_))
    · skip
      have hcd : cdB cs vals v = true := hc1
      refine ws_cons (ws_link 3 (y := v.a) (v := v.b) (L := lnkL (cdB cs vals) (V.take i0)) rfl (ed_var 6 rfl) (fun _ => ed_var 7 rfl) l0 n0 (lnk_keys _ _).1 (by have := (lnk_bd (cdB cs vals) (V.take i0)).1; rw [List.length_take] at this; rw [sizeLine_eq]; omega) (fun p hp => by have := (lnk_bd (cdB cs vals) (V.take i0)).2 p hp; rw [List.length_take] at this; rw [sizeLine_eq]; omega) (by rfl) (Or.inl rfl) ⟨rfl, rfl, rfl, rfl⟩ (fun h h2 => ps_expr (pe_bm PySem.F.plainAttrs_list PySem.F.slot_list_append PySem.F.type_list_append mt_append h h2)) ?_)
      clear l0 n0
      intro g1 l0 n0
      walk_at "env"
      refine ws_cons (ws_link 3 (y := v.b) (v := v.a) (L := addL (lnkL (cdB cs vals) (V.take i0)) v.a v.b) rfl (ed_var 7 rfl) (fun _ => ed_var 6 rfl) l0 n0 (keyK_nodup _ _ _ (lnk_keys _ _).1) (by have := (lnk_bd (cdB cs vals) (V.take i0)).1; have := addL_len (lnkL (cdB cs vals) (V.take i0)) v.a v.b; rw [List.length_take] at *; rw [sizeLine_eq]; omega) (fun p hp => by have := addL_bd (lnk_bd (cdB cs vals) (V.take i0)).2 p hp; rw [List.length_take] at this; rw [sizeLine_eq]; omega) (by rfl) (Or.inl rfl) ⟨rfl, rfl, rfl, rfl⟩ (fun h h2 => ps_expr (pe_bm PySem.F.plainAttrs_list PySem.F.slot_list_append PySem.F.type_list_append mt_append h h2)) ?_)
      clear l0 n0
      intro g1 l0 n0
      walk_at "env"
      refine ws_nil ?_
      refine ws_nil ?_
      first | exact ⟨g1, by rw [hsn, lnkS, if_pos hcd]; rfl, by rw [hsn, lnkS, if_pos hcd]; exact ⟨l0, n0⟩⟩ | exact ⟨g0, by rw [hsn, lnkS, if_neg hcd]; rfl, by rw [hsn, lnkS, if_neg hcd]; exact ⟨l0, n0⟩⟩
    · skip
      have hcd : ¬ (cdB cs vals v = true) := by rw [show cdB cs vals v = _ from hc1]; decide
      refine ws_nil ?_
      refine ws_nil ?_
      first | exact ⟨g1, by rw [hsn, lnkS, if_pos hcd]; rfl, by rw [hsn, lnkS, if_pos hcd]; exact ⟨l0, n0⟩⟩ | exact ⟨g0, by rw [hsn, lnkS, if_neg hcd]; rfl, by rw [hsn, lnkS, if_neg hcd]; exact ⟨l0, n0⟩⟩
  · intro g0 u0 hP0
    walk_at "env"
    obtain ⟨l0, n0⟩ := hP0
    rw [List.take_length] at l0 ⊢
    refine ws_shareX 3 rfl (lkD _) (fun _ _ _ h r => lk_shown l0 h r) ?_
    walk_at "env"
    refine ws_cons (ws_ret (ED.eq (ed_var 3 rfl) ?_) (Or.inl rfl))
    rfl
abbrev s_pulled : Stmt := top 12
theorem sc_pulled : FnScope ["links", "fixed", "pulling", "found", "left", "reached", "net"] ["links", "fixed", "pulling"] (defScope s_pulled) := ⟨rfl, rfl, rfl, by decide +kernel, rfl, by decide +kernel, by decide +kernel⟩
theorem ok_pulled {f : Addr} {fd : FuncData} (F : Fun K "pulled" "pulled" s_pulled f fd) (B : Bt mg) (KC : Kt K mg) (KL : Lt K mg) (XF : Xt K mg)  :
    FnOk P w K mg base CX0 1 f fd ["links", "fixed", "pulling"] (spO K R_pulled) := by
  refine fn_okO (k := 0) F sc_pulled (fun ds d h => by cases h; rfl) fun ds d hR cdv A outer s H E hr => ?_
  have nd := sc_pulled.nd
  have hu := hr.units
  rcases hR with ⟨L, P, pl, hL, hl, hb⟩
  walk_at "en"
  refine ws_cons (ws_setO 3 nd eo_dk ?_)
  walk_at "env"
  refine ws_cons (ws_setFilterK 0 4 [("net", 6)] (lftP P pl) rfl nd (blkOk_by (N := ["links", "fixed", "pulling", "found", "left", "reached", "net"]) (sc := defScope s_pulled) (by decide +kernel)) rfl (fun q hq => by
    obtain ⟨p0, hp0, rfl⟩ := List.mem_map.mp hq
    exact turn_if (fun hp1 => ⟨_, by rfl, fun _ _ _ _ _ => ⟨(dg_name 6 nd), tds_one (TD.eq (td_tw (tw_and (td_cmp (ed_var 6 rfl) (ed_var 1 rfl) (c2_inDk hu (k0 := kI p0.1) rfl) (by rfl)) (fun hb1 => (tw_and1 (td_cmp (ed_dix hu (ed_var 1 rfl) (ed_var 6 rfl) (k0 := kI p0.1) (fx_look (by assumption))) (ed_var 2 rfl) (c2_inStr (ys := pl) (.tup _)) (by rfl)))))) hp1), (ed_var 6 rfl)⟩⟩) (fun hp1 => ⟨_, by rfl, fun _ _ _ _ _ => ⟨(dg_name 6 nd), tds_one (TD.eq (td_tw (tw_and (td_cmp (ed_var 6 rfl) (ed_var 1 rfl) (c2_inDk hu (k0 := kI p0.1) rfl) (by rfl)) (fun hb2 => (tw_and1 (td_cmp (ed_dix hu (ed_var 1 rfl) (ed_var 6 rfl) (k0 := kI p0.1) (fx_look (by assumption))) (ed_var 2 rfl) (c2_inStr (ys := pl) (.tup _)) (by rfl)))))) hp1)⟩⟩)) (by rw [List.length_map, sizeLine_eq]; omega) ?_)
  rw [lft_eq]
  walk_at "env"
  refine ws_cons (ws_whileU (γ := List Int × List Int) (U := Sl × Sl) (fun g u => [(3, .ow (.dk (g.1.map kI) (g.1.map fun _ => .bl true))), (4, .ow (.lst (g.2.map .int))), (5, u.1), (6, u.2)]) (fun r => (r.getD 5 .no, r.getD 6 .no)) (PRun P L pl) (pmu (keyK L).length) (([], (keyK L).filter (stB P pl))) (rfl) (pw_start) ?_)
  intro gw0 uw0 hW0
  walk_at "env"
  refine ⟨_, (td_truthO 4 rfl), fun hw0 => ?_, fun hw0 => ?_⟩
  · skip
    obtain ⟨S0, r0, hS0⟩ : ∃ S0 r0, gw0.2 = S0 ++ [r0] := by
      rcases List.eq_nil_or_concat gw0.2 with e | ⟨S0, r0, e⟩
      · rw [e] at hw0; cases hw0
      · exact ⟨S0, r0, by rw [e, List.concat_eq_append]⟩
    rw [hS0, List.map_append]
    refine ws_cons (ws_setPop 5 4 nd rfl ?_ (pe_bm0 PySem.F.plainAttrs_list PySem.F.slot_list_pop PySem.F.type_list_pop mt_pop (pv 4)))
    walk_at "env"
    have hW : PRun P L pl (gw0.1, S0 ++ [r0]) := by rw [← hS0]; exact hW0
    have hkey : r0 ∈ keyK L := hW.pu.u2 r0 (by simp)
    refine ws_cons (ws_forU (nbL L r0) (D.int) rfl (id_list (ed_dix hu (ed_var 0 rfl) (ed_var 5 rfl) (k0 := kI r0) (nb_look hkey))) (by rfl) (U := Sl) (fun i u => [(3, .ow (.dk ((((nbL L r0).take i).foldl (pst (fxB P)) (gw0.1, S0)).1.map kI) ((((nbL L r0).take i).foldl (pst (fxB P)) (gw0.1, S0)).1.map fun _ => .bl true))), (4, .ow (.lst ((((nbL L r0).take i).foldl (pst (fxB P)) (gw0.1, S0)).2.map .int))), (6, u)]) (fun r => (r.getD 6 .no)) (fun _ => True) (rfl) (True.intro) ?_ ?_)
    · intro i0 m u0 hx0 hP0
      have hfo := pw_fold hL hW i0
      obtain ⟨s1, hs1⟩ : ∃ s, s = ((nbL L r0).take i0).foldl (pst (fxB P)) (gw0.1, S0) := ⟨_, rfl⟩
      rw [← hs1] at hfo ⊢
      have hs2 : ((nbL L r0).take (i0 + 1)).foldl (pst (fxB P)) (gw0.1, S0) = pst (fxB P) s1 m := by rw [List.take_add_one, hx0, hs1]; simp only [Option.toList, List.foldl_append]; rfl
      refine ⟨_, _, (dg_name 6 nd), ?_⟩
      walk_at "env"
      refine ws_cons (ws_if (td_tw (tw_and (td_cmp (ed_var 6 rfl) (ed_var 1 rfl) (c2_notInDk hu (k0 := kI m) rfl) (by rfl)) (fun hb5 => (tw_and1 (td_showO 3 rfl (td_cmp (ed_var 6 rfl) (ed_var 3 rfl) (c2_notInDk hu (k0 := kI m) rfl) (by rfl))))))) (fun hc4 => ?_) (fun hc4 => ?_))
      · skip
        have hst := pst_yes (P := P) (s := s1) (m := m) hc4
        refine ws_cons (ws_dputO 3 (k0 := kI m) hu rfl (ed_var 6 rfl) ed_bl hst.2 (by rw [List.length_map, sizeLine_eq]; omega) ?_)
        walk_at "env"
        refine ws_cons (ws_append 4 rfl (ed_var 6 rfl) (by rw [List.length_map, sizeLine_eq]; omega) ?_ (fun h => ps_expr (pe_bm PySem.F.plainAttrs_list PySem.F.slot_list_append PySem.F.type_list_append mt_append (pv 4) h)))
        walk_at "env"
        refine ws_nil ?_
        refine ws_nil ?_
        refine ⟨?_, True.intro⟩
        first | (rw [hs2, hst.1]; simp only [List.map_append, List.map_cons, List.map_nil]; rfl) | (rw [hs2, hst]; rfl)
      · skip
        have hst := pst_no (P := P) (s := s1) (m := m) hc4
        refine ws_nil ?_
        refine ws_nil ?_
        refine ⟨?_, True.intro⟩
        first | (rw [hs2, hst.1]; simp only [List.map_append, List.map_cons, List.map_nil]; rfl) | (rw [hs2, hst]; rfl)
    · intro u0 hP0
      walk_at "env"
      rw [List.take_length]
      refine ws_nil ?_
      have hst := pw_step hL hW
      exact ⟨pex (fxB P) L (gw0.1, S0) r0, rfl, hst.1, by have := hst.2; rw [← hS0] at this; exact this⟩
  · skip
    have he : gw0.2 = [] := by
      cases e : gw0.2 with
      | nil => rfl
      | cons _ _ => rw [e] at hw0; cases hw0
    have hF := pw_end (F := gw0.1) (by rw [← he]; exact hW0)
    refine ws_cons (ws_retO 3 rfl ?_)
    rw [hF]
    rfl
abbrev s_known_values_l : Stmt := top 13
theorem sc_known_values_l : FnScope ["devices", "fixed", "values", "sure", "perhaps", "known", "value", "opposite", "contradicted", "net"] ["devices", "fixed", "values"] (defScope s_known_values_l) := ⟨rfl, rfl, rfl, by decide +kernel, rfl, by decide +kernel, by decide +kernel⟩
theorem ok_known_values_l {f : Addr} {fd : FuncData} (F : Fun K "known_values" "known_values" s_known_values_l f fd) (B : Bt mg) (KC : Kt K mg) (KL : Lt K mg) (XF : Xt K mg) (G_links_of_l : Fn P w K mg base "links_of" 1 R_links_of_l) (G_pulled : FnO P w K mg base "pulled" 1 R_pulled) :
    FnOk P w K mg base CX0 2 f fd ["devices", "fixed", "values"] (spO K R_known_values_l) := by
  refine fn_okO (k := 1) F sc_known_values_l (fun ds d h => by cases h; rfl) fun ds d hR cdv A outer s H E hr => ?_
  have nd := sc_known_values_l.nd
  have hu := hr.units
  rcases hR with ⟨V, P, vals, n, ok, hn, hl⟩
  walk_at "en"
  refine ws_cons (ws_set 3 nd (ED.eq (d' := lkD (lkS V vals)) (ed_call G_links_of_l (hr.mono (by decide)) (by rfl) (ad_cons (ed_var 0 rfl) (ad_cons (ed_var 2 rfl) (ad_cons (ed_const KC.«SURE» (by rfl)) ad_nil))) (.mk V vals sureS n ok hn (by omega))) rfl) ?_)
  walk_at "env"
  refine ws_cons (ws_set 4 nd (ED.eq (d' := lkD (lkP V vals)) (ed_call G_links_of_l (hr.mono (by decide)) (by rfl) (ad_cons (ed_var 0 rfl) (ad_cons (ed_var 2 rfl) (ad_cons (ed_const KC.«PERHAPS» (by rfl)) ad_nil))) (.mk V vals perhS n ok hn (by omega))) rfl) ?_)
  walk_at "env"
  refine ws_cons (ws_setO 5 nd eo_dk ?_)
  walk_at "env"
  refine ws_cons (ws_forU (twoQ) (fun q : Str × Str => D.tup [.str q.1, .str q.2]) rfl (id_tup (ed_tup (ad_cons (ed_tup (ad_cons ed_str (ad_cons ed_str ad_nil))) (ad_cons (ed_tup (ad_cons ed_str (ad_cons ed_str ad_nil))) ad_nil)))) (by rfl) (U := Sl × Sl × Sl × Sl) (fun i u => [(5, .ow (.dk (fxK (knI P V vals i)) ((knI P V vals i).map fun p => .str p.2))), (6, u.1), (7, u.2.1), (8, u.2.2.1), (9, u.2.2.2)]) (fun r => (r.getD 6 .no, r.getD 7 .no, r.getD 8 .no, r.getD 9 .no)) (fun _ => True) (rfl) (True.intro) ?_ ?_)
  · intro i0 q u0 hx0 hP0
    refine ⟨_, _, (dg_tup rfl (dgs_cons (dg_name 6 nd) (dgs_cons (dg_name 7 nd) dgs_nil))), ?_⟩
    walk_at "env"
    refine ws_cons (ws_setO 8 nd (eo_call G_pulled (hr.mono (by decide)) (by rfl) (ad_cons (ed_var 4 rfl) (ad_cons (ed_var 1 rfl) (ad_cons (ed_tup (ad_cons (ed_var 7 rfl) (ad_cons ed_str ad_nil))) ad_nil))) (by first | exact .mk (lkP V vals) P [q.2, "x"] (lnk_ok _ _) (Nat.le_trans (lnk_bd _ _).1 (by omega)) (fun m => Nat.le_trans (nb_few _ m) (by omega)) | exact .mk (lkS V vals) P [q.1] (lnk_ok _ _) (Nat.le_trans (lnk_bd _ _).1 (by omega)) (fun m => Nat.le_trans (nb_few _ m) (by omega)))) ?_)
    walk_at "env"
    refine ws_share 8 rfl ?_
    walk_at "env"
    refine ws_cons (ws_forU (surP P V vals q.1) (D.int) rfl (id_dkE (eo_call G_pulled (hr.mono (by decide)) (by rfl) (ad_cons (ed_var 3 rfl) (ad_cons (ed_var 1 rfl) (ad_cons (ed_tup (ad_cons (ed_var 6 rfl) ad_nil)) ad_nil))) (by first | exact .mk (lkP V vals) P [q.2, "x"] (lnk_ok _ _) (Nat.le_trans (lnk_bd _ _).1 (by omega)) (fun m => Nat.le_trans (nb_few _ m) (by omega)) | exact .mk (lkS V vals) P [q.1] (lnk_ok _ _) (Nat.le_trans (lnk_bd _ _).1 (by omega)) (fun m => Nat.le_trans (nb_few _ m) (by omega))))) (by show List.map kD (List.map kI _) = _; rw [List.map_map]; rfl) (U := Sl) (fun i u => [(5, .ow (.dk (fxK (knI P V vals i0 ++ knF P V vals q ((surP P V vals q.1).take i))) ((knI P V vals i0 ++ knF P V vals q ((surP P V vals q.1).take i)).map fun p => .str p.2))), (9, u)]) (fun r => (r.getD 9 .no)) (fun _ => True) (by rw [List.take_zero]; simp [knF]; rfl) (True.intro) ?_ ?_)
    · intro i1 m u1 hx1 hP1
      have hfew : (knI P V vals i0 ++ knF P V vals q ((surP P V vals q.1).take i1)).length ≤ 6 * V.length := by
        have h1 := knI_len (P := P) (V := V) (vals := vals) i0
        have h2 := knF_len (P := P) (V := V) (vals := vals) (q := q) (xs := (surP P V vals q.1).take i1)
        have h3 : (surP P V vals q.1).length ≤ 2 * V.length := pul_few
        rw [List.length_take] at h2
        rw [List.length_append]; omega
      have hs2 : knF P V vals q ((surP P V vals q.1).take (i1 + 1)) = if (!decide (m ∈ conP P V vals q.2)) = true then knF P V vals q ((surP P V vals q.1).take i1) ++ [(m, q.1)] else knF P V vals q ((surP P V vals q.1).take i1) := by rw [List.take_add_one, hx1]; exact knF_snoc
      refine ⟨_, _, (dg_name 9 nd), ?_⟩
      walk_at "env"
      refine ws_cons (ws_if (td_cmp (ed_var 9 rfl) (ed_var 8 rfl) (c2_notInDk hu (k0 := kI m) rfl) (by rfl)) (fun hc1 => ?_) (fun hc1 => ?_))
      · skip
        have hcc : (!decide (m ∈ conP P V vals q.2)) = true := by rw [← hasK_map]; exact hc1
        have hnew := kn_new hx0 hx1 (by simpa using hcc)
        refine ws_cons (ws_dputO 5 (k0 := kI m) hu rfl (ed_var 9 rfl) (ed_var 6 rfl) hnew (by have := hfew; rw [fxK, List.length_map, sizeLine_eq]; omega) ?_)
        walk_at "env"
        refine ws_nil ?_
        refine ws_nil ?_
        refine ⟨?_, True.intro⟩
        first | (rw [hs2, if_pos hcc]; simp only [fxK, List.map_append, List.map_cons, List.map_nil, List.append_assoc]; rfl) | (rw [hs2, if_neg hcc]; rfl)
      · skip
        have hcc : ¬ (!decide (m ∈ conP P V vals q.2)) = true := by unfold conP; rw [← hasK_map]; rw [show (!hasK _ _) = false from hc1]; decide
        refine ws_nil ?_
        refine ws_nil ?_
        refine ⟨?_, True.intro⟩
        first | (rw [hs2, if_pos hcc]; simp only [fxK, List.map_append, List.map_cons, List.map_nil, List.append_assoc]; rfl) | (rw [hs2, if_neg hcc]; rfl)
    · intro u1 hP1
      walk_at "env"
      rw [List.take_length]
      refine ws_nil ?_
      refine ⟨?_, True.intro⟩
      rw [knI_1 i0 hx0]
      rfl
  · intro u0 hP0
    walk_at "env"
    have e2 : knI P V vals twoQ.length = knw P V vals := rfl
    rw [e2]
    refine ws_cons (ws_retO 5 rfl ?_)
    rfl
abbrev s_device_groups : Stmt := top 14
theorem sc_device_groups : FnScope ["circuit", "fixed", "groups", "members", "device", "end", "other", "free_ends", "net"] ["circuit", "fixed"] (defScope s_device_groups) := ⟨rfl, rfl, rfl, by decide +kernel, rfl, by decide +kernel, by decide +kernel⟩
theorem ok_device_groups {f : Addr} {fd : FuncData} (F : Fun K "device_groups" "device_groups" s_device_groups f fd) (B : Bt mg) (KC : Kt K mg) (KL : Lt K mg) (XF : Xt K mg) (G_Groups_init : FnIL P w K mg base "Groups" 1 R_Groups_init) (G_Groups_root : FnML P w K mg base "Groups" "root" 1 R_Groups_root) (G_Groups_unite : FnML P w K mg base "Groups" "unite" 2 R_Groups_unite) :
    FnOk P w K mg base CX0 3 f fd ["circuit", "fixed"] (spO K R_device_groups) := by
  refine fn_okO (k := 2) F sc_device_groups (fun ds d h => by cases h; rfl) fun ds d hR cdv A outer s H E hr => ?_
  have nd := sc_device_groups.nd
  have hu := hr.units
  rcases hR with ⟨n, N, V, P, ok, hn, hl⟩
  walk_at "en"
  refine ws_cons (ws_setC 2 nd (ec_make G_Groups_init (hr.mono (by decide)) (by rfl) (ad_cons (ed_fld 0 KL.«Circuit» (ed_var 0 rfl)) ad_nil) (fun a => .mk a n (by omega))) ?_)
  rintro a1 _ ⟨p1, rfl⟩
  walk_at "env"
  refine ws_cons (ws_setO 3 nd eo_dk ?_)
  walk_at "env"
  refine ws_tell 3 rfl fun a2 => ?_
  walk_at "env"
  refine ws_cons (ws_forX (V) (Dev.e) rfl (id_tup (ed_fld 2 KL.«Circuit» (ed_var 0 rfl))) (by rfl) (γ := List Nat) (U := Sl × Sl × Sl) (fun i g u => [(2, .ox (grpC a1 p1 g) (.ad a1)), (4, u.1), (5, u.2.1), (6, u.2.2)]) (fun r => (r.getD 4 .no, r.getD 5 .no, r.getD 6 .no)) (fun i g => UF g (uFV P (V.take i)) ∧ g.length = n) (List.range n) rfl (⟨uf_start _, List.length_range⟩) ?_ ?_)
  · intro i0 v g0 u0 hx0 hP0
    obtain ⟨u0, l0⟩ := hP0
    have okv := ok v (List.mem_of_getElem? hx0)
    have hva := okv.e
    refine ⟨_, _, (dg_name 4 nd), ?_⟩
    walk_at "env"
    refine ws_cons (ws_unpack (ED.eq (d' := .tup [.int v.a, .int v.b]) (ed_sliceT (ed_var 4 rfl) (some_part ed_int) (some_part ed_int)) rfl) (dg_tup rfl (dgs_cons (dg_name 5 nd) (dgs_cons (dg_name 6 nd) dgs_nil))) ?_)
    walk_at "env"
    refine ws_cons (ws_if (td_tw (tw_and (td_cmp (ed_var 5 rfl) (ed_var 1 rfl) (c2_notInDk hu (k0 := kI v.a) rfl) (by rfl)) (fun _ => tw_and1 (td_cmp (ed_var 6 rfl) (ed_var 1 rfl) (c2_notInDk hu (k0 := kI v.b) rfl) (by rfl))))) (fun hc1 => ?_) (fun hc1 => ?_))
    · skip
      have hfb : (!fxB P v.a && !fxB P v.b) = true := hc1
      refine ws_cons (ws_exprP (ep_methW 2 G_Groups_unite (hr.mono (by decide)) rfl (List.mem_iff_getElem?.mpr ⟨0, rfl⟩) (ed_varX 2 rfl) (ad_cons (ED.eq (ed_var 5 rfl) (show D.int v.a = D.int (v.a.toNat : Int) by rw [show ((v.a.toNat : Nat) : Int) = v.a by omega])) (ad_cons (ED.eq (ed_var 6 rfl) (show D.int v.b = D.int (v.b.toNat : Int) by rw [show ((v.b.toNat : Nat) : Int) = v.b by omega])) ad_nil)) (.mk a1 p1 g0 _ v.a.toNat v.b.toNat u0 (by omega) (by omega))) ?_)
      rintro _ _ ⟨_, ⟨L1, u1, l1, rfl, rfl⟩, rfl⟩
      walk_at "env"
      refine ws_nil ?_
      refine ws_nil ?_
      first | exact ⟨L1, rfl, by rw [List.take_add_one, hx0]; show UF L1 (unis (uprs P (V.take i0 ++ [v]))); rw [uprs_snoc, if_pos hfb, unis_snoc]; exact u1, by omega⟩ | exact ⟨g0, rfl, by rw [List.take_add_one, hx0]; show UF g0 (unis (uprs P (V.take i0 ++ [v]))); rw [uprs_snoc, if_neg hfb, List.append_nil]; exact u0, l0⟩
    · skip
      have hfb : ¬ (!fxB P v.a && !fxB P v.b) = true := by rw [show (!fxB P v.a && !fxB P v.b) = false from hc1]; decide
      refine ws_nil ?_
      refine ws_nil ?_
      first | exact ⟨L1, rfl, by rw [List.take_add_one, hx0]; show UF L1 (unis (uprs P (V.take i0 ++ [v]))); rw [uprs_snoc, if_pos hfb, unis_snoc]; exact u1, by omega⟩ | exact ⟨g0, rfl, by rw [List.take_add_one, hx0]; show UF g0 (unis (uprs P (V.take i0 ++ [v]))); rw [uprs_snoc, if_neg hfb, List.append_nil]; exact u0, l0⟩
  · intro g0 u0 hP0
    walk_at "env"
    obtain ⟨u0, l0⟩ := hP0
    rw [List.take_length] at u0
    refine ws_cons (ws_forX (V) (Dev.e) rfl (id_tup (ed_fld 2 KL.«Circuit» (ed_var 0 rfl))) (by rfl) (γ := List Nat × List Addr) (U := Sl × Sl) (fun i g u => [(2, .ox (grpC a1 p1 g.1) (.ad a1)), (3, .ox (gkC a2 g.2 (toG (grV P V (V.take i)))) (.ad a2)), (4, u.1), (7, u.2)]) (fun r => (r.getD 4 .no, r.getD 7 .no)) (fun i g => (UF g.1 (uFV P V) ∧ g.1.length = n) ∧ g.2.length = (toG (grV P V (V.take i))).length ∧ (a2 :: g.2).Nodup) ((g0, [])) rfl (⟨⟨u0, l0⟩, rfl, by simp⟩) ?_ ?_)
    · intro i1 v g1 u1 hx1 hP1
      obtain ⟨⟨u0, k0⟩, l0, n0⟩ := hP1
      have okv := ok v (List.mem_of_getElem? hx1)
      have hva := okv.e
      refine ⟨_, _, (dg_name 4 nd), ?_⟩
      walk_at "env"
      refine ws_cons (ws_setFilter 7 [("net", 8)] (([v.a, v.b] : List Int)) (D.int) (fun m => !fxB P m) (D.int) rfl nd (blkOk_by (N := ["circuit", "fixed", "groups", "members", "device", "end", "other", "free_ends", "net"]) (sc := defScope s_device_groups) (by decide +kernel)) (id_tup (ED.eq (ED.eq (d' := .tup [.int v.a, .int v.b]) (ed_sliceT (ed_var 4 rfl) (some_part ed_int) (some_part ed_int)) rfl) (show _ = D.tup (([v.a, v.b] : List Int).map .int) from rfl))) (rfl) (fun m hxm => turn_if (fun hp2 => ⟨_, by rfl, fun _ _ _ _ _ => ⟨(dg_name 8 nd), tds_one (TD.eq (td_cmp (ed_var 8 rfl) (ed_var 1 rfl) (c2_notInDk hu (k0 := kI m) rfl) (by rfl)) hp2), (ed_var 8 rfl)⟩⟩) (fun hp2 => ⟨_, by rfl, fun _ _ _ _ _ => ⟨(dg_name 8 nd), tds_one (TD.eq (td_cmp (ed_var 8 rfl) (ed_var 1 rfl) (c2_notInDk hu (k0 := kI m) rfl) (by rfl)) hp2)⟩⟩)) (by show 2 ≤ _; rw [sizeLine_eq]; omega) ?_)
      refine ws_share 7 rfl ?_
      walk_at "env"
      refine ws_cons (ws_if (td_truth (ed_var 7 rfl) rfl) (fun hc3 => ?_) (fun hc3 => ?_))
      · skip
        have hgs : grV P V (V.take (i1 + 1)) = grS P V (grV P V (V.take i1)) v := by rw [List.take_add_one, hx1]; exact grV_snoc ..
        unfold grS at hgs
        have hfe : ¬ frE P v = [] := fun z => by unfold frE at z; rw [z] at hc3; simp at hc3
        obtain ⟨m0, mr, hfr⟩ := List.exists_cons_of_ne_nil hfe
        have hm0 : 0 ≤ m0 ∧ m0 < (n : Int) := by
          have h9 : m0 ∈ frE P v := by rw [hfr]; exact List.mem_cons_self
          have h8 := (List.mem_filter.mp h9).1
          simp only [List.mem_cons, List.not_mem_nil, or_false] at h8
          rcases h8 with rfl | rfl <;> omega
        have hrt : rtV P V v = ((uFV P V m0.toNat : Nat) : Int) := by unfold rtV; rw [hfr]; rfl
        have hgA : toG (grV P V (V.take (i1 + 1))) = addG (toG (grV P V (V.take i1))) ((uFV P V m0.toNat : Nat) : Int) v.e := by rw [hgs, if_neg hfe, hrt, toG_add]
        refine ws_cons (ws_linkP 3 (v := v.e) (L := toG (grV P V (V.take i1))) rfl (ep_methW 2 G_Groups_root (hr.mono (by decide)) rfl (List.mem_iff_getElem?.mpr ⟨0, rfl⟩) (ed_varX 2 rfl) (ad_cons (ED.eq (d' := .int (m0.toNat : Int)) (ed_ix (ED.eq (d' := .lst (.int m0 :: mr.map .int)) (ed_var 7 rfl) (by show D.lst ((frE P v).map D.int) = _; rw [hfr]; rfl)) ed_int IX.l0) (by rw [show ((m0.toNat : Nat) : Int) = m0 by omega])) ad_nil) (.mk a1 p1 g1.1 _ m0.toNat u0 (by omega))) (by rintro _ _ ⟨_, ⟨L1, u1, l1, rfl, rfl⟩, rfl⟩; exact ⟨⟨_, rfl⟩, rfl⟩) (by rintro _ _ _ ⟨_, ⟨L1, u1, l1, rfl, rfl⟩, rfl⟩; exact (ed_var 4 rfl)) l0 n0 (grV_ok P V _).1 (by unfold toG; rw [List.length_map, sizeLine_eq]; have := (grV_ok P V (V.take i1)).2.1; rw [List.length_take] at this; omega) (fun q hq => by unfold toG at hq; obtain ⟨q9, hq9, rfl⟩ := List.mem_map.mp hq; rw [List.length_map, sizeLine_eq]; have := (grV_ok P V (V.take i1)).2.2 q9 hq9; rw [List.length_take] at this; omega) (by rfl) (Or.inl rfl) ⟨rfl, rfl, rfl, rfl⟩ (fun h h2 => ps_expr (pe_bm PySem.F.plainAttrs_list PySem.F.slot_list_append PySem.F.type_list_append mt_append h h2)) ?_)
        intro y9 ρ9 w9 g9 l9 n9
        obtain ⟨_, ⟨L1, u1, l1, rfl, hy9⟩, rfl⟩ := w9
        obtain rfl : y9 = ((uFV P V m0.toNat : Nat) : Int) := by injection hy9
        walk_at "env"
        refine ws_nil ?_
        refine ws_nil ?_
        first | exact ⟨(g1.1, g1.2), by rw [hgB]; rfl, ⟨u0, k0⟩, by rw [hgB]; exact l0, n0⟩ | exact ⟨(L1, g9), by rw [hgA]; rfl, ⟨u1, l1.trans k0⟩, by rw [hgA]; exact l9, n9⟩
      · skip
        have hgs : grV P V (V.take (i1 + 1)) = grS P V (grV P V (V.take i1)) v := by rw [List.take_add_one, hx1]; exact grV_snoc ..
        unfold grS at hgs
        have hfe : frE P v = [] := by
          cases e9 : frE P v with
          | nil => rfl
          | cons m0 mr => unfold frE at e9; rw [e9] at hc3; simp at hc3
        have hgB : grV P V (V.take (i1 + 1)) = grV P V (V.take i1) := by rw [hgs, if_pos hfe]
        refine ws_nil ?_
        refine ws_nil ?_
        first | exact ⟨(g1.1, g1.2), by rw [hgB]; rfl, ⟨u0, k0⟩, by rw [hgB]; exact l0, n0⟩ | exact ⟨(L1, g9), by rw [hgA]; rfl, ⟨u1, l1.trans k0⟩, by rw [hgA]; exact l9, n9⟩
    · intro g1 u1 hP1
      walk_at "env"
      obtain ⟨⟨u0, k0⟩, l0, n0⟩ := hP1
      rw [List.take_length] at l0 ⊢
      refine ws_shareX 3 rfl (gkD _) (fun _ _ _ h r => gk_shown l0 h r) ?_
      walk_at "env"
      refine ws_cons (ws_retE (EO.eq (eo_listValsS rfl (by rfl) B.«list» (ed_var 3 rfl)) ?_) rfl)
      unfold toG grL
      rw [List.map_map, List.map_map]
      rfl
abbrev s_indexes_by_gate : Stmt := top 15
theorem sc_indexes_by_gate : FnScope ["groups", "indexes", "index", "devices", "gate", "device"] ["groups"] (defScope s_indexes_by_gate) := ⟨rfl, rfl, rfl, by decide +kernel, rfl, by decide +kernel, by decide +kernel⟩
theorem ok_indexes_by_gate {f : Addr} {fd : FuncData} (F : Fun K "indexes_by_gate" "indexes_by_gate" s_indexes_by_gate f fd) (B : Bt mg) (KC : Kt K mg) (KL : Lt K mg) (XF : Xt K mg)  :
    FnOk P w K mg base CX0 1 f fd ["groups"] (spR K R_indexes_by_gate) := by
  refine fn_ok (k := 0) F sc_indexes_by_gate (fun ds d h => by cases h; rfl) fun ds d hR cdv A outer s H E hr => ?_
  have nd := sc_indexes_by_gate.nd
  have hu := hr.units
  rcases hR with ⟨Gs, hl, hG⟩
  walk_at "en"
  refine ws_cons (ws_setO 1 nd eo_dk ?_)
  walk_at "env"
  refine ws_tell 1 rfl fun a1 => ?_
  walk_at "env"
  refine ws_cons (ws_forX (List.range Gs.length) (fun (k : Nat) => D.tup [.int (k : Int), (fun G : List Dev => D.lst (G.map Dev.e)) (Gs.getD k [])]) rfl (id_enum (by rfl) B.«enumerate» (ed_var 0 rfl)) (by exact enum_gW Gs (fun G : List Dev => D.lst (G.map Dev.e)) []) (γ := List Addr) (U := Sl × Sl × Sl) (fun i g u => [(1, .ox (lkC a1 g (addsL (wad Gs i))) (.ad a1)), (2, u.1), (3, u.2.1), (4, u.2.2)]) (fun r => (r.getD 2 .no, r.getD 3 .no, r.getD 4 .no)) (fun i g => g.length = (addsL (wad Gs i)).length ∧ (a1 :: g).Nodup) ([]) rfl (⟨rfl, by simp⟩) ?_ ?_)
  · intro i0 t g0 u0 hx0 hP0
    obtain rfl : i0 = t := by
      obtain ⟨hl9, he9⟩ := List.getElem?_eq_some_iff.mp hx0
      rw [List.getElem_range] at he9; exact he9
    have hi9 : i0 < Gs.length := by have := (List.getElem?_eq_some_iff.mp hx0).1; rwa [List.length_range] at this
    obtain ⟨G, hGe⟩ : ∃ G, G = Gs.getD i0 [] := ⟨_, rfl⟩
    have hGl : G.length ≤ 200 := hG G (by rw [hGe, List.getD_eq_getElem?_getD, List.getElem?_eq_getElem hi9]; exact List.getElem_mem hi9)
    rw [← hGe, show wad Gs i0 = wadJ Gs i0 0 from (wadJ_0 Gs i0).symm]
    refine ⟨_, _, (dg_tup rfl (dgs_cons (dg_name 2 nd) (dgs_cons (dg_name 3 nd) dgs_nil))), ?_⟩
    walk_at "env"
    refine ws_cons (ws_forX (gatS G) (D.int) rfl (id_list (ed_lst (EO.eq (c' := .lst ((gatS G).map .int)) (eo_srtSet (ns := G.map (·.g)) rfl (by rfl) B.«sorted» (by rfl) B.«set» (ED.eq (ed_lst (eo_map [("device", 5)] (G) (Dev.e) (fun v => D.int v.g) rfl nd (blkOk_by (N := ["groups", "indexes", "index", "devices", "gate", "device"]) (sc := defScope s_indexes_by_gate) (by decide +kernel)) (id_list (ed_var 3 rfl)) (rfl) (fun v hxm => ⟨_, by rfl, fun _ _ _ _ _ => ⟨(dg_name 5 nd), tds_nil, (ED.eq (d' := .int v.g) (ed_ix (ED.eq (d' := .tup [.str v.k, .int v.g, .int v.a, .int v.b, .int v.w, .int v.l]) (ed_var 5 rfl) rfl) ed_int IX.t1) rfl)⟩⟩) (by rw [sizeLine_eq]; omega))) (by rw [List.map_map]; rfl)) (by rw [List.length_map]; omega)) (by rfl)))) (by rfl) (γ := List Addr) (U := Sl) (fun i g u => [(1, .ox (lkC a1 g (addsL (wadJ Gs i0 i))) (.ad a1)), (4, u)]) (fun r => (r.getD 4 .no)) (fun i g => g.length = (addsL (wadJ Gs i0 i)).length ∧ (a1 :: g).Nodup) (g0) rfl (by rw [wadJ_0]; exact hP0) ?_ ?_)
    · intro i1 y g1 u1 hx1 hP1
      obtain ⟨l0, n0⟩ := hP1
      have hb9 := wadJ_len hG hi9 i1
      rw [hGe] at hx1
      refine ⟨_, _, (dg_name 4 nd), ?_⟩
      walk_at "env"
      refine ws_cons (ws_link 1 (y := y) (v := (i0 : Int)) (L := addsL (wadJ Gs i0 i1)) rfl (ed_var 4 rfl) (fun _ => ed_var 2 rfl) l0 n0 (adds_nd _) (by have := (adds_bd (wadJ Gs i0 i1)).1; rw [sizeLine_eq]; omega) (fun p hp => by have := (adds_bd (wadJ Gs i0 i1)).2 p hp; rw [sizeLine_eq]; omega) (by rfl) (Or.inl rfl) ⟨rfl, rfl, rfl, rfl⟩ (fun h h2 => ps_expr (pe_bm PySem.F.plainAttrs_list PySem.F.slot_list_append PySem.F.type_list_append mt_append h h2)) ?_)
      clear l0 n0
      intro g9 l0 n0
      walk_at "env"
      refine ws_nil ?_
      refine ⟨g9, ?_, ?_⟩
      · rw [wadJ_succ hx1, addsL_snoc]; rfl
      · rw [wadJ_succ hx1, addsL_snoc]; exact ⟨l0, n0⟩
    · intro g1 u1 hP1
      walk_at "env"
      rw [hGe, wadJ_all] at hP1
      rw [hGe, wadJ_all]
      refine ws_nil ?_
      exact ⟨g1, rfl, hP1⟩
  · intro g0 u0 hP0
    walk_at "env"
    rw [List.length_range] at hP0 ⊢
    obtain ⟨l0, n0⟩ := hP0
    refine ws_shareX 1 rfl (lkD _) (fun _ _ _ h r => lk_shown l0 h r) ?_
    walk_at "env"
    refine ws_cons (ws_ret (ED.eq (ed_var 1 rfl) ?_) (Or.inl rfl))
    rfl
abbrev s_settle : Stmt := top 16
theorem sc_settle : FnScope ["circuit", "fixed", "fixed_values", "groups", "watching", "values", "due", "changes", "index", "net", "value", "known"] ["circuit", "fixed"] (defScope s_settle) := ⟨rfl, rfl, rfl, by decide +kernel, rfl, by decide +kernel, by decide +kernel⟩
theorem ok_settle {f : Addr} {fd : FuncData} (F : Fun K "settle" "settle" s_settle f fd) (B : Bt mg) (KC : Kt K mg) (KL : Lt K mg) (XF : Xt K mg) (G_device_groups : FnO P w K mg base "device_groups" 3 R_device_groups) (G_indexes_by_gate : Fn P w K mg base "indexes_by_gate" 1 R_indexes_by_gate) (G_known_values_l : FnO P w K mg base "known_values" 2 R_known_values_l) :
    FnOk P w K mg base CX0 4 f fd ["circuit", "fixed"] (spR K R_settle) := by
  refine fn_ok (k := 3) F sc_settle (fun ds d h => by cases h; rfl) fun ds d hR cdv A outer s H E hr => ?_
  have nd := sc_settle.nd
  have hu := hr.units
  rcases hR with ⟨n, N, V, P, ok, hFO, hn, hl⟩
  have hX := fo_fxs hFO
  have hgl := grL_len P V
  walk_at "en"
  refine ws_cons (ws_setO 2 nd (EO.eq (eo_dictL (kds := P.map fun p => (kI p.1, D.str p.2)) (by rfl) (by rfl) B.«dict» (by rw [List.map_map]; exact hFO.nd) (ED.eq (ed_var 1 rfl) (show D.lst (P.map fxE) = _ by rw [List.map_map]; rfl))) (show _ = OC.dk (fxK P) (P.map fun p => .str p.2) by rw [List.map_map, List.map_map]; rfl)) ?_)
  walk_at "env"
  refine ws_share 2 rfl ?_
  walk_at "env"
  refine ws_cons (ws_setO 3 nd (eo_call G_device_groups (hr.mono (by decide)) (by rfl) (ad_cons (ed_var 0 rfl) (ad_cons (ed_var 2 rfl) ad_nil)) (by exact .mk n N V P ok (by omega) (by omega))) ?_)
  walk_at "env"
  refine ws_share 3 rfl ?_
  walk_at "env"
  refine ws_cons (ws_set 4 nd (ed_call G_indexes_by_gate (hr.mono (by decide)) (by rfl) (ad_cons (ed_var 3 rfl) ad_nil) (by exact .mk (grL P V) (by omega) (fun G hG => by have := hgl.2 G hG; omega))) ?_)
  walk_at "env"
  refine ws_cons (ws_setO 5 nd (eo_map2 [("net", 9)] (List.range n) (fun (i : Nat) => D.int (i : Int)) (zF P) (D.str) rfl nd (blkOk_by (N := ["circuit", "fixed", "fixed_values", "groups", "watching", "values", "due", "changes", "index", "net", "value", "known"]) (sc := defScope s_settle) (by decide +kernel)) (id_range1 (by rfl) B.«range» (ed_fld 0 KL.«Circuit» (ed_var 0 rfl)) (by walk_at "side")) (by rw [Int.toNat_natCast]; exact rngD0 _) (fun t hxm => ⟨_, by rfl, fun _ _ _ _ _ => ⟨(dg_name 9 nd), tds_nil, (ED.eq (ed_dget2 (k0 := kI (t : Int)) hu (ed_var 2 rfl) (ed_var 9 rfl) ed_str ⟨rfl, rfl, rfl, rfl⟩) (show _ = D.str (zF P t) from fx_get))⟩⟩) (by rw [List.length_range, sizeLine_eq]; omega)) ?_)
  walk_at "env"
  refine ws_cons (ws_setO 6 nd (EO.eq (c' := .lst ((List.range (grL P V).length).map fun k : Nat => D.int (k : Int))) (eo_listRg1 rfl (by rfl) B.«list» (by rfl) B.«range» (ED.eq (ed_callB (id := "len") (by rfl) B.«len» bb_len (ad_cons (ed_var 3 rfl) ad_nil) (by walk_at "bc")) (show _ = D.int ((grL P V).length : Int) by rw [List.length_map])) (by omega) (by omega)) (by first | rfl | (rw [Int.toNat_natCast, rngD0]) | (rw [Int.toNat_natCast]))) ?_)
  refine ws_share 6 rfl ?_
  walk_at "env"
  refine ws_cons (ws_whileU (γ := Str × List Nat) (U := Sl × Sl × Sl × Sl × Sl) (fun g u => [(5, .ow (.lst ((valL n g.1).map D.str))), (6, .sh (.lst (g.2.map fun k : Nat => D.int (k : Int)))), (7, u.1), (8, u.2.1), (9, u.2.2.1), (10, u.2.2.2.1), (11, u.2.2.2.2)]) (fun r => (r.getD 7 .no, r.getD 8 .no, r.getD 9 .no, r.getD 10 .no, r.getD 11 .no)) (fun g => SInv n V P g.1 g.2 ∧ g.2.Nodup ∧ ∀ k ∈ g.2, k < (grL P V).length) (fun g => muS n g.1 g.2) ((z0S n P, List.range (grL P V).length)) (by rw [val_z0 hX, List.map_map]; rfl) (⟨sinv_start hX, List.nodup_range, fun k hk => List.mem_range.mp hk⟩) ?_)
  intro gw0 uw0 hW0
  walk_at "env"
  refine ⟨_, (td_truth (ed_var 6 rfl) rfl), fun hw0 => ?_, fun hw0 => ?_⟩
  · skip
    have hne9 : gw0.2 ≠ [] := fun z => by rw [z] at hw0; cases hw0
    have hS9 := ss_step hX ok hW0.2.2 hW0.2.1 hW0.1.len
    have hC9 := chS_sg (V := V) (P := P) (z := gw0.1) hW0.2.2
    refine ws_cons (ws_setO 7 nd eo_dk ?_)
    walk_at "env"
    refine ws_cons (ws_forU (gw0.2) (fun k : Nat => D.int (k : Int)) rfl (id_list (ed_var 6 rfl)) (by rfl) (U := Sl × Sl) (fun i u => [(7, .ow (.dk (fxK (chS V P gw0.1 (gw0.2.take (i)))) ((chS V P gw0.1 (gw0.2.take (i))).map fun p => D.str p.2))), (8, u.1), (11, u.2)]) (fun r => (r.getD 8 .no, r.getD 11 .no)) (fun _ => True) (rfl) (True.intro) ?_ ?_)
    · intro i0 k u0 hx0 hP0
      have hk9 := List.mem_of_getElem? hx0
      have hkl9 := hW0.2.2 k hk9
      obtain ⟨G, hG⟩ : ∃ G, (grL P V)[k]? = some G := ⟨_, List.getElem?_eq_getElem hkl9⟩
      have hGm := List.mem_of_getElem? hG
      have okG : ∀ v ∈ G, DevOk (n : Int) v := fun v hv => ok v (grL_sub hGm v hv)
      have hGl := hgl.2 G hGm
      have hkw9 := knI_len (P := P) (V := G) (vals := gw0.1) 2
      have hcs9 : chS V P gw0.1 (gw0.2.take (i0 + 1)) = chS V P gw0.1 (gw0.2.take i0) ++ chG P gw0.1 G := by
        rw [List.take_add_one, hx0]
        show chS V P gw0.1 (gw0.2.take i0 ++ [k]) = _
        rw [chS_snoc, List.getD_eq_getElem?_getD, hG]; rfl
      have hdt9 : ∀ k ∈ gw0.2.take (i0 + 1), k < (grL P V).length := fun k hk => hW0.2.2 k (List.mem_of_mem_take hk)
      have hnt9 : (gw0.2.take (i0 + 1)).Nodup := hW0.2.1.sublist (List.take_sublist ..)
      have hfew9 := chS_few (z := gw0.1) ok hdt9 hnt9
      have hkw9 : (knw P G gw0.1).length ≤ 240 := by unfold knw; omega
      have hnd9 : (fxK (chS V P gw0.1 (gw0.2.take i0)) ++ fxK (chG P gw0.1 G)).Nodup := by
        have h := chS_nd (z := gw0.1) hdt9 hnt9
        rw [hcs9] at h
        have h2 := nodup_inj (f := kI) (fun a b hab => kI_inj hab) h
        rw [List.map_map, List.map_append] at h2
        exact h2
      refine ⟨_, _, (dg_name 8 nd), ?_⟩
      walk_at "env"
      refine ws_cons (ws_setO 11 nd (eo_lendK 5 rfl (fx_nols _) (eo_call G_known_values_l (hr.mono (by decide)) (by rfl) (ad_cons (ed_ix (d := .lst (G.map Dev.e)) (ed_var 3 rfl) (ed_var 8 rfl) (.l (atI_nat (by rw [List.getElem?_map, hG]; rfl)))) (ad_cons (ed_var 2 rfl) (ad_cons (ed_var 5 rfl) ad_nil))) (.mk G P gw0.1 n okG (by omega) (by omega)))) ?_)
      walk_at "env"
      refine ws_share 11 rfl ?_
      walk_at "env"
      have hq0 : ∀ q ∈ knw P G gw0.1, 0 ≤ q.1 ∧ q.1 < (n : Int) := fun q hq => (knw_in hq).rng okG
      refine ws_cons (ws_updO 7 rfl (eo_dcFx 11 [("net", 9), ("value", 10)] (fun q => decide (vlS gw0.1 q.1 = ("x" : Str))) rfl nd (blkOk_by (N := ["circuit", "fixed", "fixed_values", "groups", "watching", "values", "due", "changes", "index", "net", "value", "known"]) (sc := defScope s_settle) (by decide +kernel)) rfl knw_nd (fun q hq => turn_ifDF (fun hp => ⟨_, by rfl, fun _ _ _ _ _ => ⟨dg_tup rfl (dgs_cons (dg_name 9 nd) (dgs_cons (dg_name 10 nd) dgs_nil)), tds_one (TD.eq (td_showO 5 rfl (td_cmp (ed_ix (d := .str (vlS gw0.1 q.1)) (ed_var 5 rfl) (ed_var 9 rfl) (.l (valL_at (hq0 q hq).1 (hq0 q hq).2))) ed_str c2_eqS (by rfl))) hp), (ed_var 9 rfl), (ed_var 10 rfl)⟩⟩) (fun hp => ⟨_, by rfl, fun _ _ _ _ _ => ⟨dg_tup rfl (dgs_cons (dg_name 9 nd) (dgs_cons (dg_name 10 nd) dgs_nil)), tds_one (TD.eq (td_showO 5 rfl (td_cmp (ed_ix (d := .str (vlS gw0.1 q.1)) (ed_var 5 rfl) (ed_var 9 rfl) (.l (valL_at (hq0 q hq).1 (hq0 q hq).2))) ed_str c2_eqS (by rfl))) hp)⟩⟩)) (by rw [sizeLine_eq]; omega)) hnd9 (by simp only [fxK, List.length_map]; have := hfew9; rw [hcs9, List.length_append] at this; unfold chG at this; rw [sizeLine_eq]; omega) ?_ (fun h => ps_expr (pe_bm PySem.F.plainAttrs_dict PySem.F.slot_dict_update PySem.F.type_dict_update mt_dupd (pv 7) h)))
      walk_at "env"
      refine ws_nil ?_
      refine ⟨?_, True.intro⟩
      rw [hcs9]
      simp only [fxK, List.map_append, chG]
      rfl
    · intro u0 hP0
      walk_at "env"
      rw [List.take_length]
      have hfew9 := chS_few (z := gw0.1) ok hW0.2.2 hW0.2.1
      refine ws_share 7 rfl ?_
      walk_at "env"
      refine ws_cons (ws_forItKU 7 rfl rfl (by simp only [fxK, List.length_map]) (U := Sl × Sl) (fun i u => [(5, .ow (.lst ((upL n gw0.1 ((chS V P gw0.1 gw0.2).take i)).map D.str))), (9, u.1), (10, u.2)]) (fun r => (r.getD 9 .no, r.getD 10 .no)) (fun _ => True) (rfl) (True.intro) ?_ ?_)
      · intro i1 x u1 hx1 hP1
        obtain ⟨p, hp, rfl⟩ := itK_get hx1
        have hpm := List.mem_of_getElem? hp
        obtain ⟨k9, _, G9, hG9, hkn9, _⟩ := (chS_in hW0.2.2).mp hpm
        have hp0 := (kn_grp.mpr ⟨G9, List.mem_of_getElem? hG9, hkn9⟩ : KnC P V gw0.1 p.1 p.2).rng ok
        have hfr9 : fxB ((chS V P gw0.1 gw0.2).take i1) p.1 = false := fx_fresh (chS_nd (z := gw0.1) hW0.2.2 hW0.2.1) hp
        refine ⟨_, _, (dg_tup rfl (dgs_cons (dg_name 9 nd) (dgs_cons (dg_name 10 nd) dgs_nil))), ?_⟩
        walk_at "env"
        refine ws_cons (ws_lputO 5 rfl (ed_var 9 rfl) (ed_var 10 rfl) (val_ix hp0.1 hp0.2) ?_)
        walk_at "env"
        refine ws_nil ?_
        refine ⟨?_, True.intro⟩
        rw [List.take_add_one, hp]
        show _ = _
        rw [show (chS V P gw0.1 gw0.2).take i1 ++ (some p).toList = (chS V P gw0.1 gw0.2).take i1 ++ [(p.1, p.2)] from rfl, ← upL_set hp0.1 hp0.2 hfr9, List.map_set]
        rfl
      · intro u1 hP1
        walk_at "env"
        refine ws_drop 8 ?_
        refine ws_drop 11 ?_
        refine ws_drop 9 ?_
        refine ws_drop 10 ?_
        walk_at "env"
        rw [show (fxK (chS V P gw0.1 gw0.2)).length = (chS V P gw0.1 gw0.2).length by unfold fxK; rw [List.length_map], List.take_length]
        have hwl8 := wtD_len (V := V) (P := P) (C := chS V P gw0.1 gw0.2)
        have hwl7 : (chS V P gw0.1 gw0.2).length * V.length ≤ 60 * 60 := Nat.mul_le_mul (by omega) hl
        have hwf9 : (wtD V P (chS V P gw0.1 gw0.2)).length + 1 < 4096 := by omega
        have hwl9 := st_room (V := V) (P := P) (C := chS V P gw0.1 gw0.2) (by omega)
        refine ws_cons (ws_setO 6 nd (EO.eq (c' := .lst ((srtU (wtD V P (chS V P gw0.1 gw0.2))).map .int)) (eo_srtSet (ns := wtD V P (chS V P gw0.1 gw0.2)) rfl (by rfl) B.«sorted» (by rfl) B.«set» (ED.eq (ed_lst (EO.eq (c' := .lst ((wtD V P (chS V P gw0.1 gw0.2)).map .int)) (eo_dropOw (eo_lc2K (β := Int) 7 [("net", 9), ("index", 8)] [8] (wkN V P) D.int (fun _ i => D.int i) rfl nd (blkOk_by (N := ["circuit", "fixed", "fixed_values", "groups", "watching", "values", "due", "changes", "index", "net", "value", "known"]) (sc := defScope s_settle) (by decide +kernel)) (by simp) (dropOw_no _) rfl (fun k hk => by
  obtain ⟨q, hq, rfl⟩ := List.mem_map.mp hk
  exact ⟨_, _, (by rfl), by rfl, rfl, fun _ _ _ _ _ => ⟨DG.mono (dg_name 9 nd) (by simp), (id_list (ED.eq (ed_dget2 (k0 := kI q.1) hu (ed_var 4 rfl) (ed_var 9 rfl) (ed_lst (eo_lst ad_nil)) ⟨rfl, rfl, rfl, rfl⟩) (nb_dget _ _))), fun y hy => ⟨_, by rfl, fun _ _ _ _ _ => ⟨dg_name 8 nd, (ed_var 8 rfl)⟩⟩⟩⟩) hwl9)) (by unfold wtD; rw [st_flat]))) (by rfl)) (by exact hwf9)) (by rfl)) ?_)
        refine ws_share 6 rfl ?_
        walk_at "env"
        refine ws_nil ?_
        exact ⟨(upZ n gw0.1 (chS V P gw0.1 gw0.2), due2 V P (chS V P gw0.1 gw0.2)), by rw [upZ_val hC9, due2_D]; rfl, ⟨sinv_step hX ok hW0.1 hS9, due2_nd, fun k hk => (due2_in.mp hk).1⟩, muS_lt ok hX hW0.2.2 hW0.2.1 hW0.1.len hne9⟩
  · skip
    have he9 : gw0.2 = [] := by
      cases e : gw0.2 with
      | nil => rfl
      | cons _ _ => rw [e] at hw0; cases hw0
    have hI9 := hW0.1
    rw [he9] at hI9
    have hend9 := sinv_end hX ok hI9
    refine ws_cons (ws_ret (ED.eq (ED.eq (d' := .str gw0.1) (ed_showO 5 rfl (ed_join (zs := valL n gw0.1) ed_str (.lst _) (ed_var 5 rfl) (vaL_room (by omega)))) (by rw [join_val hW0.1.len])) ?_) (Or.inl rfl))
    rw [hend9]
abbrev s_combinations_of : Stmt := top 17
theorem sc_combinations_of : FnScope ["count", "found", "_", "values", "value"] ["count"] (defScope s_combinations_of) := ⟨rfl, rfl, rfl, by decide +kernel, rfl, by decide +kernel, by decide +kernel⟩
theorem ok_combinations_of {f : Addr} {fd : FuncData} (F : Fun K "combinations_of" "combinations_of" s_combinations_of f fd) (B : Bt mg) (KC : Kt K mg) (KL : Lt K mg) (XF : Xt K mg)  :
    FnOk P w K mg base CX0 1 f fd ["count"] (spR K R_combinations_of) := by
  refine fn_ok (k := 0) F sc_combinations_of (fun ds d h => by cases h; rfl) fun ds d hR cdv A outer s H E hr => ?_
  have nd := sc_combinations_of.nd
  have hu := hr.units
  rcases hR with ⟨k, hk⟩
  walk_at "en"
  refine ws_cons (ws_setO 1 nd (eo_lst (ad_cons ed_str ad_nil)) ?_)
  refine ws_share 1 rfl ?_
  walk_at "env"
  refine ws_cons (ws_forU (List.range (k)) (fun (i : Nat) => D.int (i : Int)) rfl (id_range1 (by rfl) B.«range» (ed_var 0 rfl) (by walk_at "side")) (by rw [Int.toNat_natCast]; exact rngD0 _) (U := Sl) (fun i u => [(1, .sh (.lst ((cmbL i).map .str))), (2, u)]) (fun r => (r.getD 2 .no)) (fun _ => True) (rfl) (True.intro) ?_ ?_)
  · intro i0 t u0 hx0 hP0
    obtain rfl : i0 = t := by
      obtain ⟨hl, he⟩ := List.getElem?_eq_some_iff.mp hx0
      rw [List.getElem_range] at he; exact he
    have hi0 : i0 < k := by have := (List.getElem?_eq_some_iff.mp hx0).1; rwa [List.length_range] at this
    refine ⟨_, _, (dg_name 2 nd), ?_⟩
    walk_at "env"
    refine ws_cons (ws_setLc2 (i := 1) [("values", 3), ("value", 4)] [4] (cmbL i0) (D.str) (fun _ => [("0" : Str), "1"]) (D.str) (fun v w => D.str (v ++ w)) rfl nd (blkOk_by (N := ["count", "found", "_", "values", "value"]) (sc := defScope s_combinations_of) (by decide +kernel)) (by simp) (by rfl) (id_list (ed_var 1 rfl)) (rfl) (fun x hxm => ⟨_, _, (by rfl), by rfl, rfl, fun _ _ _ _ _ => ⟨DG.mono (dg_name 3 nd) (by simp), (id_tup (ED.eq (d' := .tup (([("0" : Str), "1"]).map .str)) (ed_tup (ad_cons ed_str (ad_cons ed_str ad_nil))) rfl)), fun y hym => ⟨_, by rfl, fun _ _ _ _ _ => ⟨dg_name 4 nd, (ed_bin (ed_var 3 rfl) (ed_var 4 rfl) (b2_addS (by have h1 := cmb_few i0 (by omega) x hxm; have h2 := len01 hym; rw [sizeLine_eq]; omega)))⟩⟩⟩⟩) (by have := cmb_flen (k := i0) (by omega); rw [sizeLine_eq]; omega) ?_)
    refine ws_share 1 rfl ?_
    walk_at "env"
    refine ws_nil ?_
    refine ⟨?_, True.intro⟩
    rw [← cmb_step]
    rfl
  · intro u0 hP0
    walk_at "env"
    rw [List.length_range]
    refine ws_cons (ws_ret (ED.eq (ed_var 1 rfl) ?_) (Or.inl rfl))
    rfl
abbrev s_table : Stmt := top 18
theorem sc_table : FnScope ["circuit", "inputs", "output", "nets", "name", "supplies", "found", "values", "fixed", "net", "value"] ["circuit", "inputs", "output"] (defScope s_table) := ⟨rfl, rfl, rfl, by decide +kernel, rfl, by decide +kernel, by decide +kernel⟩
theorem ok_table {f : Addr} {fd : FuncData} (F : Fun K "table" "table" s_table f fd) (B : Bt mg) (KC : Kt K mg) (KL : Lt K mg) (XF : Xt K mg) (G_combinations_of : Fn P w K mg base "combinations_of" 1 R_combinations_of) (G_settle : Fn P w K mg base "settle" 4 R_settle) :
    FnOk P w K mg base CX0 5 f fd ["circuit", "inputs", "output"] (spR K R_table) := by
  refine fn_ok (k := 4) F sc_table (fun ds d h => by cases h; rfl) fun ds d hR cdv A outer s H E hr => ?_
  have nd := sc_table.nd
  have hu := hr.units
  rcases hR with ⟨n, N, V, I, x0, ok, hI, hx, hn, hl⟩
  have hIl := hI.l
  have hxr : 0 ≤ ntF N x0 ∧ ntF N x0 < (n : Int) := by
    obtain ⟨q, hq, e⟩ := hsN_iff.mp hx
    rw [← e, ntF_of ok.d2 hq]; exact (ok.nm q hq).1
  walk_at "en"
  refine ws_cons (ws_setO 3 nd (eo_dc [("net", 9), ("name", 4)] (srtN N) nmE (fun q => Sum.inr q.2) (fun q => D.int q.1) rfl nd (blkOk_by (N := ["circuit", "inputs", "output", "nets", "name", "supplies", "found", "values", "fixed", "net", "value"]) (sc := defScope s_table) (by decide +kernel)) (id_tup (ed_fld 1 KL.«Circuit» (ed_var 0 rfl))) rfl (by have h9 := ((srtN_perm N).map (·.2)).nodup_iff.mpr ok.d2; have h8 := nodup_inj (f := (Sum.inr : Str → Key)) (fun a b e => Sum.inr.inj e) h9; rwa [List.map_map] at h8) (fun q hq => ⟨_, by rfl, fun _ _ _ _ _ => ⟨dg_tup rfl (dgs_cons (dg_name 9 nd) (dgs_cons (dg_name 4 nd) dgs_nil)), ed_var 4 rfl, ed_var 9 rfl⟩⟩) (by rw [srtN_len]; have := ok.nl; rw [sizeLine_eq]; omega)) ?_)
  refine ws_share 3 rfl ?_
  walk_at "env"
  refine ws_cons (ws_forU (I ++ [x0]) (D.str) rfl (id_list (ed_lst (eo_lst (ad_starL (ed_var 1 rfl) (ad_cons (ed_var 2 rfl) ad_nil)) (by simp only [List.length_append, List.length_map, List.length_cons, List.length_nil]; rw [sizeLine_eq]; omega)))) (by rw [List.map_append]; rfl) (U := Sl) (fun i u => [(4, u)]) (fun r => (r.getD 4 .no)) (fun _ => True) (rfl) (True.intro) ?_ ?_)
  · intro i0 y u0 hx0 hP0
    have hym := List.mem_of_getElem? hx0
    have hyh : hasK (ndK (srtN N)) (Sum.inr y) = true := by
      rw [nd_has, hsN_perm (srtN_perm N)]
      rcases List.mem_append.mp hym with z | z
      · exact hI.h y z
      · rw [List.mem_singleton] at z; rw [z]; exact hx
    refine ⟨_, _, (dg_name 4 nd), ?_⟩
    walk_at "env"
    refine ws_cons (ws_if (td_cmp (ed_var 4 rfl) (ed_var 3 rfl) (c2_notInDk hu (k0 := Sum.inr y) rfl) (by rfl)) (fun hc1 => ?_) (fun hc1 => ?_))
    · skip
      exfalso; rw [hyh] at hc1; cases hc1
    · skip
      clear hc1
      refine ws_nil ?_
      refine ws_nil ?_
      exact ⟨rfl, True.intro⟩
  · intro u0 hP0
    walk_at "env"
    refine ws_cons (ws_setFilter2 5 [("name", 4), ("value", 10)] (splL) (fun s : Str × Str => D.tup [.str s.1, .str s.2]) (fun s => hasK (ndK (srtN N)) (Sum.inr s.1)) (splG N) (fxE) rfl nd (blkOk_by (N := ["circuit", "inputs", "output", "nets", "name", "supplies", "found", "values", "fixed", "net", "value"]) (sc := defScope s_table) (by decide +kernel)) (id_tup (ed_const KC.«SUPPLIES» (by rfl))) (rfl) (fun s hxm => turn_if (fun hp2 => ⟨_, by rfl, fun _ _ _ _ _ => ⟨(dg_tup rfl (dgs_cons (dg_name 4 nd) (dgs_cons (dg_name 10 nd) dgs_nil))), tds_one (TD.eq (td_cmp (ed_var 4 rfl) (ed_var 3 rfl) (c2_inDk hu (k0 := Sum.inr s.1) rfl) (by rfl)) hp2), (ed_tup (ad_cons (by first | exact (ed_dix hu (ed_var 3 rfl) (ed_var 4 rfl) (k0 := Sum.inr s.1) (nd_get (srtN_perm N) ok.d2 (by first | assumption | (rw [← hsN_perm (srtN_perm N), ← nd_has]; assumption) | (apply hI.h; assumption)))) | exact (ed_dix hu (ed_var 3 rfl) (ed_var 4 rfl) (k0 := Sum.inr p.1) (nd_get (srtN_perm N) ok.d2 (by first | assumption | (rw [← hsN_perm (srtN_perm N), ← nd_has]; assumption) | (apply hI.h; assumption))))) (ad_cons (ed_var 10 rfl) ad_nil)))⟩⟩) (fun hp2 => ⟨_, by rfl, fun _ _ _ _ _ => ⟨(dg_tup rfl (dgs_cons (dg_name 4 nd) (dgs_cons (dg_name 10 nd) dgs_nil))), tds_one (TD.eq (td_cmp (ed_var 4 rfl) (ed_var 3 rfl) (c2_inDk hu (k0 := Sum.inr s.1) rfl) (by rfl)) hp2)⟩⟩)) (by rw [sizeLine_eq]; decide) ?_)
    refine ws_share 5 rfl ?_
    walk_at "env"
    rw [spl_cv (srtN_perm N)]
    refine ws_cons (ws_setO 6 nd (eo_lst ad_nil) ?_)
    walk_at "env"
    refine ws_cons (ws_forU (cmbL I.length) (D.str) rfl (id_list (ed_call G_combinations_of (hr.mono (by decide)) (by rfl) (ad_cons (ED.eq (ed_callB (id := "len") (by rfl) B.«len» bb_len (ad_cons (ed_var 1 rfl) ad_nil) (by walk_at "bc")) (show _ = (D.int (I.length : Int)) from by rw [List.length_map])) ad_nil) (by exact .mk _ hIl))) (by rfl) (U := Sl × Sl) (fun i u => [(6, .ow (.lst (((cmbL I.length).take i).map fun v => D.str (resS n N V I x0 v)))), (7, u.1), (8, u.2)]) (fun r => (r.getD 7 .no, r.getD 8 .no)) (fun _ => True) (rfl) (True.intro) ?_ ?_)
    · intro i1 v u1 hx1 hP1
      have hvm := List.mem_of_getElem? hx1
      have hFt := tab_fok ok hI hvm
      have hcf := cmb_few2 (k := I.length) (by omega)
      refine ⟨_, _, (dg_name 7 nd), ?_⟩
      walk_at "env"
      refine ws_cons (ws_set 8 nd (ED.eq (d' := .lst ((tabF N I v).map fxE)) (ed_lst (eo_cat (ed_var 5 rfl) (ed_lst (eo_map2 [("name", 4), ("value", 10)] (I.zip v.cps.toList) (fun p : Str × Nat => D.tup [.str p.1, .str ⟨#[p.2]⟩]) (fun p => (ntF N p.1, chS1 p.2)) (fxE) rfl nd (blkOk_by (N := ["circuit", "inputs", "output", "nets", "name", "supplies", "found", "values", "fixed", "net", "value"]) (sc := defScope s_table) (by decide +kernel)) (id_zipLS (by rfl) B.«zip» (ed_var 1 rfl) (ed_var 7 rfl)) (zipS_map I v) (fun p hxm => by have hpI := hI.h p.1 (List.of_mem_zip hxm).1; exact ⟨_, by rfl, fun _ _ _ _ _ => ⟨(dg_tup rfl (dgs_cons (dg_name 4 nd) (dgs_cons (dg_name 10 nd) dgs_nil))), tds_nil, (ed_tup (ad_cons (by first | exact (ed_dix hu (ed_var 3 rfl) (ed_var 4 rfl) (k0 := Sum.inr s.1) (nd_get (srtN_perm N) ok.d2 (by first | assumption | (rw [← hsN_perm (srtN_perm N), ← nd_has]; assumption) | (apply hI.h; assumption)))) | exact (ed_dix hu (ed_var 3 rfl) (ed_var 4 rfl) (k0 := Sum.inr p.1) (nd_get (srtN_perm N) ok.d2 (by first | assumption | (rw [← hsN_perm (srtN_perm N), ← nd_has]; assumption) | (apply hI.h; assumption))))) (ad_cons (ed_var 10 rfl) ad_nil)))⟩⟩) (by rw [List.length_zip, sizeLine_eq]; omega))) (by have h1 := spl_len N; unfold splF at h1; simp only [List.length_map] at h1 ⊢; rw [List.length_zip, sizeLine_eq]; omega))) (by rw [tab_cat])) ?_)
      walk_at "env"
      refine ws_cons (ws_append 6 rfl (ED.eq (d' := .str (resS n N V I x0 v)) (ed_ixS (c := (itZ n V (tabF N I v) (n + 1)).cps.toList.getD (ntF N x0).toNat 0) (ed_call G_settle (hr.mono (by decide)) (by rfl) (ad_cons (ed_var 0 rfl) (ad_cons (ed_var 8 rfl) ad_nil)) (by exact .mk n N V (tabF N I v) ok.dv hFt (by omega) (by omega))) (ed_dix hu (ed_var 3 rfl) (ed_var 2 rfl) (k0 := Sum.inr x0) (nd_get (srtN_perm N) ok.d2 (by first | assumption | (rw [← hsN_perm (srtN_perm N), ← nd_has]; assumption) | (apply hI.h; assumption)))) (by show (itZ n V (tabF N I v) (n + 1)).cps.toList.length ≤ _; rw [it_len (fo_fxs hFt), sizeLine_eq]; omega) (vl_at hxr.1 hxr.2 (by rw [it_len (fo_fxs hFt)]))) rfl) (by rw [List.length_map, List.length_take, sizeLine_eq]; omega) ?_ (fun h => ps_expr (pe_bm PySem.F.plainAttrs_list PySem.F.slot_list_append PySem.F.type_list_append mt_append (pv 6) h)))
      walk_at "env"
      refine ws_nil ?_
      refine ⟨?_, True.intro⟩
      rw [List.take_add_one, hx1, List.map_append]
      rfl
    · intro u1 hP1
      walk_at "env"
      rw [List.take_length]
      refine ws_share 6 rfl ?_
      walk_at "env"
      refine ws_cons (ws_ret (ED.eq (ed_var 6 rfl) ?_) (Or.inl rfl))
      rfl
theorem okX_table {f : Addr} {fd : FuncData} (F : Fun K "table" "table" s_table f fd) (B : Bt mg) (KC : Kt K mg) (KL : Lt K mg) (XF : Xt K mg)  (GE_UnknownName : FnEr P w K mg base "UnknownName" ["name"] 1 R_E_UnknownName) :
    FnOk P w K mg base (L2N.CX P w) 5 f fd ["circuit", "inputs", "output"] (spXG K RX_table) := by
  refine fn_okXG (k := 4) F sc_table (fun ds c h => by cases h; rfl) fun ds cn hR cdv A outer s H E hr => ?_
  have nd := sc_table.nd
  have hu := hr.units
  rcases hR with ⟨n, N, V, I, x0, k9, y, ok, hk9, hy, hb, hIl, hyl⟩
  refine ⟨nosE 11, ?_⟩
  walk_at "en"
  refine xg_cons (ws_setO 3 nd (eo_dc [("net", 9), ("name", 4)] (srtN N) nmE (fun q => Sum.inr q.2) (fun q => D.int q.1) rfl nd (blkOk_by (N := ["circuit", "inputs", "output", "nets", "name", "supplies", "found", "values", "fixed", "net", "value"]) (sc := defScope s_table) (by decide +kernel)) (id_tup (ed_fld 1 KL.«Circuit» (ed_var 0 rfl))) rfl (by have h9 := ((srtN_perm N).map (·.2)).nodup_iff.mpr ok.d2; have h8 := nodup_inj (f := (Sum.inr : Str → Key)) (fun a b e => Sum.inr.inj e) h9; rwa [List.map_map] at h8) (fun q hq => ⟨_, by rfl, fun _ _ _ _ _ => ⟨dg_tup rfl (dgs_cons (dg_name 9 nd) (dgs_cons (dg_name 4 nd) dgs_nil)), ed_var 4 rfl, ed_var 9 rfl⟩⟩) (by rw [srtN_len]; have := ok.nl; rw [sizeLine_eq]; omega)) ?_)
  refine xg_share 3 rfl ?_
  walk_at "env"
  refine xg_head (xg_forU (I ++ [x0]) (D.str) rfl (id_list (ed_lst (eo_lst (ad_starL (ed_var 1 rfl) (ad_cons (ed_var 2 rfl) ad_nil)) (by simp only [List.length_append, List.length_map, List.length_cons, List.length_nil]; rw [sizeLine_eq]; omega)))) (by rw [List.map_append]; rfl) (U := Sl) (fun i u => [(4, u)]) (fun r => (r.getD 4 .no)) (k9) hk9 (rfl) ?_ ?_ (by first | exact passes_of rfl | assumption))
  · intro i0 z u0 hlt0 hx0
    have hzh : hasK (ndK (srtN N)) (Sum.inr z) = true := by rw [nd_has, hsN_perm (srtN_perm N)]; exact hb _ _ hlt0 hx0
    refine ⟨_, _, (dg_name 4 nd), ?_⟩
    walk_at "env"
    refine ws_cons (ws_if (td_cmp (ed_var 4 rfl) (ed_var 3 rfl) (c2_notInDk hu (k0 := Sum.inr z) rfl) (by rfl)) (fun hc1 => ?_) (fun hc1 => ?_))
    · skip
      exfalso; rw [hzh] at hc1; cases hc1
    · skip
      clear hc1
      refine ws_nil ?_
      refine ws_nil ?_
      exact rfl
  · intro u0
    obtain ⟨z, hz9⟩ : ∃ z, z = y := ⟨_, rfl⟩
    subst hz9
    have hzn : hasK (ndK (srtN N)) (Sum.inr z) = false := by rw [nd_has, hsN_perm (srtN_perm N)]; exact hy
    refine ⟨_, _, (dg_name 4 nd), ?_⟩
    walk_at "env"
    refine xg_ifr (td_cmp (ed_var 4 rfl) (ed_var 3 rfl) (c2_notInDk hu (k0 := Sum.inr z) rfl) (by rfl)) (fun hc2 => ?_) (fun hc2 => ?_)
    · skip
      clear hc2
      exact xg_no (xg_head (xg_raiseF GE_UnknownName (hr.mono (by decide)) (by rfl) (ad_cons (ed_var 4 rfl) ad_nil) (by exact .mk _ hyl)))
    · skip
      exfalso; rw [hzn] at hc2; cases hc2
abbrev s_is_name : Stmt := top 21
theorem sc_is_name : FnScope ["name", "sign"] ["name"] (defScope s_is_name) := ⟨rfl, rfl, rfl, by decide +kernel, rfl, by decide +kernel, by decide +kernel⟩
theorem ok_is_name {f : Addr} {fd : FuncData} (F : Fun K "is_name" "is_name" s_is_name f fd) (B : Bt mg) (KC : Kt K mg) (KL : Lt K mg) (XF : Xt K mg)  :
    FnOk P w K mg base CX0 1 f fd ["name"] (spR K R_is_name) := by
  refine fn_ok (k := 0) F sc_is_name (fun ds d h => by cases h; rfl) fun ds d hR cdv A outer s H E hr => ?_
  have nd := sc_is_name.nd
  have hu := hr.units
  rcases hR with ⟨x, hx⟩
  walk_at "en"
  refine ws_cons (ws_if (td_tw (tw_or (td_not (td_chain ed_int (ed_callB (id := "len") (by rfl) B.«len» bb_len (ad_cons (ed_var 0 rfl) ad_nil) (bc_lenS hx)) (ed_const KC.«MOST_CHARACTERS» (by rfl)) (by walk_at "c2") (by walk_at "c2"))) (fun hb2 => (tw_or1 (td_not (TD.eq (td_chain ed_str (ed_ixS (c := x.cps.toList.getD 0 0) (ed_var 0 rfl) ed_int hx (at_first hb2)) ed_str (by walk_at "c2") (by walk_at "c2")) (chA _))))))) (fun hc1 => ?_) (fun hc1 => ?_))
  · skip
    have hf := name_no hc1
    refine ws_cons (ws_ret (ED.eq ed_bl ?_) (Or.inl rfl))
    rw [hf]
  · skip
    have hf := name_yes hc1
    refine ws_nil ?_
    refine ws_cons (ws_ret (ED.eq (ed_callB (id := "all") (by rfl) B.«all» bb_all (ad_cons (ed_lst (eo_map2 [("sign", 1)] (x.cps.toList) (fun c => D.str (sgn c)) (chB) (D.bl) rfl nd (blkOk_by (N := ["name", "sign"]) (sc := defScope s_is_name) (by decide +kernel)) (id_str (ed_var 0 rfl)) (rfl) (fun c hxm => ⟨_, by rfl, fun _ _ _ _ _ => ⟨(dg_name 1 nd), tds_nil, (ed_or (ED.eq (ed_chain ed_str (ed_var 1 rfl) ed_str (by walk_at "c2") (by walk_at "c2")) (show _ = (D.bl (loB c)) from by exact congrArg D.bl (chA c))) (fun hb4 => (ed_one (ED.eq (ed_chain ed_str (ed_var 1 rfl) ed_str (by walk_at "c2") (by walk_at "c2")) (show _ = (D.bl (decide (48 ≤ c) && decide (c ≤ 57))) from by exact congrArg D.bl (ch0 c))))))⟩⟩) (by rw [Array.length_toList]; exact hx))) ad_nil) (bc_all rfl)) ?_) (Or.inl rfl))
    rw [hf]
abbrev s_is_net_count : Stmt := top 26
theorem sc_is_net_count : FnScope ["net_count"] ["net_count"] (defScope s_is_net_count) := ⟨rfl, rfl, rfl, by decide +kernel, rfl, by decide +kernel, by decide +kernel⟩
theorem ok_is_net_count {f : Addr} {fd : FuncData} (F : Fun K "is_net_count" "is_net_count" s_is_net_count f fd) (B : Bt mg) (KC : Kt K mg) (KL : Lt K mg) (XF : Xt K mg)  :
    FnOk P w K mg base CX0 1 f fd ["net_count"] (spR K R_is_net_count) := by
  refine fn_ok (k := 0) F sc_is_net_count (fun ds d h => by cases h; rfl) fun ds d hR cdv A outer s H E hr => ?_
  have nd := sc_is_net_count.nd
  have hu := hr.units
  cases hR
  walk_at "en"
  refine ws_cons (ws_ret (ED.eq (ed_chain ed_int (ed_var 0 rfl) (ed_const KC.«MOST_NETS» (by rfl)) (by walk_at "c2") (by walk_at "c2")) ?_) (Or.inl rfl))
  rfl
abbrev s_is_device : Stmt := top 27
theorem sc_is_device : FnScope ["device", "net_count", "kind", "gate", "end", "other", "width", "length"] ["device", "net_count"] (defScope s_is_device) := ⟨rfl, rfl, rfl, by decide +kernel, rfl, by decide +kernel, by decide +kernel⟩
theorem ok_is_device {f : Addr} {fd : FuncData} (F : Fun K "is_device" "is_device" s_is_device f fd) (B : Bt mg) (KC : Kt K mg) (KL : Lt K mg) (XF : Xt K mg)  :
    FnOk P w K mg base CX0 1 f fd ["device", "net_count"] (spR K R_is_device) := by
  refine fn_ok (k := 0) F sc_is_device (fun ds d h => by cases h; rfl) fun ds d hR cdv A outer s H E hr => ?_
  have nd := sc_is_device.nd
  have hu := hr.units
  rcases hR with ⟨v, n, b, hb⟩
  walk_at "en"
  refine ws_cons (ws_unpack (ed_var 0 rfl) (dg_tup rfl (dgs_cons (dg_name 2 nd) (dgs_cons (dg_name 3 nd) (dgs_cons (dg_name 4 nd) (dgs_cons (dg_name 5 nd) (dgs_cons (dg_name 6 nd) (dgs_cons (dg_name 7 nd) dgs_nil))))))) ?_)
  walk_at "env"
  refine ws_cons (ws_ret (ED.eq (ed_and (ed_cmp (ed_var 2 rfl) (ed_const KC.«KINDS» (by rfl)) (c2_inStr (ys := ["n", "p"]) (.tup _)) (by rfl)) (fun hb4 => (ed_and (ed_chain ed_int (ed_var 3 rfl) (ed_var 1 rfl) (by walk_at "c2") (by walk_at "c2")) (fun hb3 => (ed_and (ed_chain3 ed_int (ed_var 4 rfl) (ed_var 5 rfl) (ed_var 1 rfl) (by walk_at "c2") (by walk_at "c2") (by walk_at "c2")) (fun hb2 => (ed_and (ed_cmp (ed_var 6 rfl) ed_int (by walk_at "c2")) (fun hb1 => (ed_one (ed_cmp (ed_var 7 rfl) ed_int (by walk_at "c2"))))))))))) ?_) (Or.inl rfl))
  subst hb; rfl
abbrev s_are_names : Stmt := top 28
theorem sc_are_names : FnScope ["names", "net_count", "net", "name", "_"] ["names", "net_count"] (defScope s_are_names) := ⟨rfl, rfl, rfl, by decide +kernel, rfl, by decide +kernel, by decide +kernel⟩
theorem ok_are_names {f : Addr} {fd : FuncData} (F : Fun K "are_names" "are_names" s_are_names f fd) (B : Bt mg) (KC : Kt K mg) (KL : Lt K mg) (XF : Xt K mg) (G_is_name : Fn P w K mg base "is_name" 1 R_is_name) :
    FnOk P w K mg base CX0 2 f fd ["names", "net_count"] (spR K R_are_names) := by
  refine fn_ok (k := 1) F sc_are_names (fun ds d h => by cases h; rfl) fun ds d hR cdv A outer s H E hr => ?_
  have nd := sc_are_names.nd
  have hu := hr.units
  rcases hR with ⟨d, N, n, hd, hN, hz⟩
  walk_at "en"
  refine ws_cons (ws_ret (ED.eq (ed_and (ed_callB (id := "all") (by rfl) B.«all» bb_all (ad_cons (ed_lst (eo_map2 [("net", 2), ("name", 3)] (N) (nmE) (fun q : Nm => (decide (0 ≤ q.1) && decide (q.1 < n)) && nameB q.2) (D.bl) rfl nd (blkOk_by (N := ["names", "net_count", "net", "name", "_"]) (sc := defScope s_are_names) (by decide +kernel)) (id_seq hd (ed_var 0 rfl)) (rfl) (fun q hxm => ⟨_, by rfl, fun _ _ _ _ _ => ⟨(dg_tup rfl (dgs_cons (dg_name 2 nd) (dgs_cons (dg_name 3 nd) dgs_nil))), tds_nil, (ed_and (ed_chain ed_int (ed_var 2 rfl) (ed_var 1 rfl) (by walk_at "c2") (by walk_at "c2")) (fun hb5 => (ed_one (ed_call G_is_name (hr.mono (by decide)) (by rfl) (ad_cons (ed_var 3 rfl) ad_nil) (by exact .mk _ (by have := hz q hxm; rw [sizeLine_eq]; omega))))))⟩⟩) (by rw [sizeLine_eq]; omega))) ad_nil) (bc_all rfl)) (fun hb6 => (ed_and (ed_cmp (ed_lenSetK (by rfl) (by rfl) B.«len» (by rfl) B.«set» (ed_lst (eo_map2 [("net", 2), ("_", 4)] (N) (nmE) (fun q : Nm => (Sum.inl q.1 : Key)) (kD) rfl nd (blkOk_by (N := ["names", "net_count", "net", "name", "_"]) (sc := defScope s_are_names) (by decide +kernel)) (id_seq hd (ed_var 0 rfl)) (rfl) (fun q hxm => ⟨_, by rfl, fun _ _ _ _ _ => ⟨(dg_tup rfl (dgs_cons (dg_name 2 nd) (dgs_cons (dg_name 4 nd) dgs_nil))), tds_nil, (ed_var 2 rfl)⟩⟩) (by rw [sizeLine_eq]; omega))) (by rw [List.length_map]; omega)) (ed_callB (id := "len") (by rfl) B.«len» bb_len (ad_cons (ed_var 0 rfl) ad_nil) ((bc_lenSeq hd))) (by walk_at "c2")) (fun hb3 => (ed_one (ed_cmp (ed_lenSetK (by rfl) (by rfl) B.«len» (by rfl) B.«set» (ed_lst (eo_map2 [("_", 4), ("name", 3)] (N) (nmE) (fun q : Nm => (Sum.inr q.2 : Key)) (kD) rfl nd (blkOk_by (N := ["names", "net_count", "net", "name", "_"]) (sc := defScope s_are_names) (by decide +kernel)) (id_seq hd (ed_var 0 rfl)) (rfl) (fun q hxm => ⟨_, by rfl, fun _ _ _ _ _ => ⟨(dg_tup rfl (dgs_cons (dg_name 4 nd) (dgs_cons (dg_name 3 nd) dgs_nil))), tds_nil, (ed_var 3 rfl)⟩⟩) (by rw [sizeLine_eq]; omega))) (by rw [List.length_map]; omega)) (ed_callB (id := "len") (by rfl) B.«len» bb_len (ad_cons (ed_var 0 rfl) ad_nil) ((bc_lenSeq hd))) (by walk_at "c2"))))))) ?_) (Or.inl rfl))
  rw [namesB_eq]
abbrev s_Circuit_init : Stmt := inClass (top 29) 0
theorem sc_Circuit_init : FnScope ["self", "net_count", "names", "devices", "device"] ["self", "net_count", "names", "devices"] (defScope s_Circuit_init) := ⟨rfl, rfl, rfl, by decide +kernel, rfl, by decide +kernel, by decide +kernel⟩
theorem ok_Circuit_init {f : Addr} {fd : FuncData} (F : Fun K "__init__" "Circuit.__init__" s_Circuit_init f fd) (B : Bt mg) (KC : Kt K mg) (KL : Lt K mg) (XF : Xt K mg) (G_are_names : Fn P w K mg base "are_names" 2 R_are_names) (G_is_device : Fn P w K mg base "is_device" 1 R_is_device) (G_is_net_count : Fn P w K mg base "is_net_count" 1 R_is_net_count) :
    FnOk P w K mg base CX0 3 f fd ["self", "net_count", "names", "devices"] (spI K "Circuit" R_Circuit_init) := by
  refine fn_okI (k := 2) F sc_Circuit_init (fun ds ns es h => by cases h; rfl) fun a0 ds ns es hR cdv A outer s H E hr => ?_
  have nd := sc_Circuit_init.nd
  have hu := hr.units
  rcases hR with ⟨n, N, V, dN, dV, hN, hV, ok⟩
  walk_at "en"
  refine ws_cons (ws_if (td_not (td_truth (ed_call G_is_net_count (hr.mono (by decide)) (by rfl) (ad_cons (ed_var 1 rfl) ad_nil) (by walk_at "mk")) rfl)) (fun hc1 => ?_) (fun hc1 => ?_))
  · skip
    exfalso; have := ok.nn; simp at hc1; omega
  · skip
    clear hc1
    refine ws_nil ?_
    refine ws_cons (ws_if (td_not (td_truth (ed_call G_are_names (hr.mono (by decide)) (by rfl) (ad_cons (ed_var 2 rfl) (ad_cons (ed_var 1 rfl) ad_nil)) (by exact .mk _ _ _ hN ok.nl ok.short)) rfl)) (fun hc2 => ?_) (fun hc2 => ?_))
    · skip
      exfalso; rw [ok.namesB] at hc2; cases hc2
    · skip
      clear hc2
      refine ws_nil ?_
      refine ws_cons (ws_if (td_cmp (ed_callB (id := "len") (by rfl) B.«len» bb_len (ad_cons (ed_var 3 rfl) ad_nil) ((bc_lenSeq hV))) (ed_const KC.«MOST_DEVICES» (by rfl)) (by walk_at "c2")) (fun hc3 => ?_) (fun hc3 => ?_))
      · skip
        exfalso; have := ok.vl; simp at hc3; omega
      · skip
        clear hc3
        refine ws_nil ?_
        refine ws_cons (ws_if (td_not (td_truth (ed_callB (id := "all") (by rfl) B.«all» bb_all (ad_cons (ed_lst (eo_map2 [("device", 4)] (V) (Dev.e) (fun _ : Dev => true) (D.bl) rfl nd (blkOk_by (N := ["self", "net_count", "names", "devices", "device"]) (sc := defScope s_Circuit_init) (by decide +kernel)) (id_seq hV (ed_var 3 rfl)) (rfl) (fun v hxm => ⟨_, by rfl, fun _ _ _ _ _ => ⟨(dg_name 4 nd), tds_nil, (ed_call G_is_device (hr.mono (by decide)) (by rfl) (ad_cons (ed_var 4 rfl) (ad_cons (ed_var 1 rfl) ad_nil)) (by exact .mk _ _ _ (dev_ok (ok.dv v hxm)).symm))⟩⟩) (by have := ok.vl; rw [sizeLine_eq]; omega))) ad_nil) (bc_all rfl)) rfl)) (fun hc4 => ?_) (fun hc4 => ?_))
        · skip
          exfalso; simp at hc4
        · skip
          clear hc4
          refine ws_nil ?_
          refine ws_cons (ws_setF 0 KL.«Circuit» rfl (ed_var 1 rfl) ?_)
          simp only [List.cons_append, List.nil_append]
          walk_at "env"
          refine ws_cons (ws_setF 0 KL.«Circuit» rfl (ed_tupX (by rfl) B.«tuple» (ed_lst (eo_sortedD (by rfl) B.«sorted» hN (ed_var 2 rfl) (nm_sort hu)))) ?_)
          simp only [List.cons_append, List.nil_append]
          walk_at "env"
          refine ws_cons (ws_setF 0 KL.«Circuit» rfl (ed_callT (T := "tuple") (by rfl) B.«tuple» bb_tuple (ad_cons (ed_var 3 rfl) ad_nil) ((bc_tupSeq hV))) ?_)
          simp only [List.cons_append, List.nil_append]
          walk_at "env"
          refine ws_cons (ws_setF 0 KL.«Circuit» rfl (ed_own (eo_dictP (kds := (srtN N).map nmK) (by rfl) (by rfl) B.«dict» ok.keys (ED.eq (ed_fldO 0 1 KL.«Circuit» rfl) (by show D.ptp ((srtN N).map nmE) = _; rw [nmK_D])))) ?_)
          simp only [List.cons_append, List.nil_append]
          walk_at "env"
          refine ws_nil ?_
          exact ⟨_, _, rfl, rfl, cirWk⟩
abbrev s_Circuit_eq : Stmt := inClass (top 29) 3
theorem sc_Circuit_eq : FnScope ["self", "other"] ["self", "other"] (defScope s_Circuit_eq) := ⟨rfl, rfl, rfl, by decide +kernel, rfl, by decide +kernel, by decide +kernel⟩
theorem ok_Circuit_eq {f : Addr} {fd : FuncData} (F : Fun K "__eq__" "Circuit.__eq__" s_Circuit_eq f fd) (B : Bt mg) (KC : Kt K mg) (KL : Lt K mg) (XF : Xt K mg)  :
    FnOk P w K mg base CX0 1 f fd ["self", "other"] (spR K R_Circuit_eq) := by
  refine fn_ok (k := 0) F sc_Circuit_eq (fun ds d h => by cases h; rfl) fun ds d hR cdv A outer s H E hr => ?_
  have nd := sc_Circuit_eq.nd
  have hu := hr.units
  rcases hR with ⟨n, m, N, M, V, W, ok1, ok2⟩
  walk_at "en"
  refine ws_cons (ws_ret (ED.eq (ed_and (ed_isC KL.«Circuit» (by rfl) B.«isinstance» (by rfl) (ed_var 1 rfl)) (fun hb3 => (ed_and (ed_cmp (ed_fld 0 KL.«Circuit» (ed_var 0 rfl)) (ed_fld 0 KL.«Circuit» (ed_var 1 rfl)) (by walk_at "c2")) (fun hb2 => (ed_and (ed_cmp (ed_fld 1 KL.«Circuit» (ed_var 0 rfl)) (ed_fld 1 KL.«Circuit» (ed_var 1 rfl)) (c2_eqNm (k := decide (srtN N = srtN M)) hu (srt_names ok1) (srt_names ok2) (by simp)) (by rfl)) (fun hb1 => (ed_one (ed_cmp (ed_fld 2 KL.«Circuit» (ed_var 0 rfl)) (ed_fld 2 KL.«Circuit» (ed_var 1 rfl)) (c2_eqDev (k := decide (V = W)) hu ok1.dv ok2.dv (by simp)) (by rfl))))))))) ?_) (Or.inl rfl))
  rfl
abbrev s_law_cell : Stmt := top 31
theorem sc_law_cell : FnScope ["script", "k"] ["script", "k"] (defScope s_law_cell) := ⟨rfl, rfl, rfl, by decide +kernel, rfl, by decide +kernel, by decide +kernel⟩
theorem ok_law_cell {f : Addr} {fd : FuncData} (F : Fun K "_law_cell" "_law_cell" s_law_cell f fd) (B : Bt mg) (KC : Kt K mg) (KL : Lt K mg) (XF : Xt K mg)  :
    FnOk P w K mg base CX0 1 f fd ["script", "k"] (spR K R_law_cell) := by
  refine fn_ok (k := 0) F sc_law_cell (fun ds d h => by cases h; rfl) fun ds d hR cdv A outer s H E hr => ?_
  have nd := sc_law_cell.nd
  have hu := hr.units
  rcases hR with ⟨ns, k, h0⟩
  walk_at "en"
  refine ws_cons (ws_if (td_cmp (ed_var 1 rfl) (ed_callB (id := "len") (by rfl) B.«len» bb_len (ad_cons (ed_var 0 rfl) ad_nil) (by walk_at "bc")) (by walk_at "c2")) (fun hc1 => ?_) (fun hc1 => ?_))
  · skip
    simp only [decide_eq_true_eq, List.length_map] at hc1
    refine ws_cons (ws_ret (ED.eq (ed_ix (ed_var 0 rfl) (ed_var 1 rfl) (IX.l (at_ints (k := k.toNat) (x := cellAt ns k) (by omega) (by unfold cellAt; simp [show k.toNat < ns.length by omega])))) ?_) (Or.inl rfl))
    rfl
  · skip
    simp only [decide_eq_false_iff_not, List.length_map] at hc1
    refine ws_nil ?_
    refine ws_cons (ws_ret (ED.eq ed_int ?_) (Or.inl rfl))
    unfold cellAt; rw [List.getD_eq_getElem?_getD, List.getElem?_eq_none (by omega)]; rfl
abbrev s_law_draws : Stmt := top 32
theorem sc_law_draws : FnScope ["cell", "count", "rows", "left", "k", "mixed"] ["cell", "count"] (defScope s_law_draws) := ⟨rfl, rfl, rfl, by decide +kernel, rfl, by decide +kernel, by decide +kernel⟩
theorem ok_law_draws {f : Addr} {fd : FuncData} (F : Fun K "_law_draws" "_law_draws" s_law_draws f fd) (B : Bt mg) (KC : Kt K mg) (KL : Lt K mg) (XF : Xt K mg)  :
    FnOk P w K mg base CX0 1 f fd ["cell", "count"] (spR K R_law_draws) := by
  refine fn_ok (k := 0) F sc_law_draws (fun ds d h => by cases h; rfl) fun ds d hR cdv A outer s H E hr => ?_
  have nd := sc_law_draws.nd
  have hu := hr.units
  rcases hR with ⟨c, n, h0, h1⟩
  walk_at "en"
  refine ws_cons (ws_setO 2 nd (eo_lst ad_nil) ?_)
  walk_at "env"
  refine ws_cons (ws_set 3 nd (ed_var 0 rfl) ?_)
  walk_at "env"
  refine ws_cons (ws_forU (List.range n.toNat) (fun (i : Nat) => D.int (i : Int)) rfl (id_range1 (by rfl) B.«range» (ed_var 1 rfl) (by walk_at "side")) (by exact rngD0 _) (U := Sl × Sl) (fun i u => [(2, .ow (.lst ((drawn c i).1.map D.int))), (3, .sh (.int (drawn c i).2)), (4, u.1), (5, u.2)]) (fun r => (r.getD 4 .no, r.getD 5 .no)) (fun _ => True) (rfl) (True.intro) ?_ ?_)
  · intro i0 t u0 hx0 hP0
    obtain rfl : i0 = t := by
      obtain ⟨hl, he⟩ := List.getElem?_eq_some_iff.mp hx0
      rw [List.getElem_range] at he; exact he
    refine ⟨_, _, (dg_name 4 nd), ?_⟩
    walk_at "env"
    refine ws_cons (ws_if (td_tw (tw_and (td_cmp (ed_var 0 rfl) (ed_bin ed_int ed_int (b2_powL (n := 1000000000000000000) ⟨by decide, by decide, by decide⟩ (by decide))) (by walk_at "c2")) (fun hb2 => (tw_and1 (td_cmp (ed_var 3 rfl) ed_int (by walk_at "c2")))))) (fun hc1 => ?_) (fun hc1 => ?_))
    · skip
      simp only [Bool.and_eq_true, decide_eq_true_eq] at hc1
      have e : drawn c (i0 + 1) = ((drawn c i0).1 ++ [(drawn c i0).2 % 4096], (drawn c i0).2 / 4096) := by
        rw [drawn_succ]; unfold drawStep; rw [if_pos hc1]
      refine ws_cons (ws_append 2 rfl (ed_bin (ed_callT (T := "int") (by rfl) B.«int» bb_int (ad_cons (ed_var 3 rfl) ad_nil) (by walk_at "bc")) ed_int (by walk_at "b2")) (by rw [List.length_map, (draws_spec c i0).1, sizeLine_eq]; have := (List.getElem?_eq_some_iff.mp hx0).1; rw [List.length_range] at this; omega) ?_ (fun h => ps_expr (pe_bm PySem.F.plainAttrs_list PySem.F.slot_list_append PySem.F.type_list_append mt_append (pv 2) h)))
      walk_at "env"
      refine ws_cons (ws_set 3 nd (ed_bin (ed_var 3 rfl) ed_int (by walk_at "b2")) ?_)
      walk_at "env"
      refine ws_nil ?_
      refine ws_nil ?_
      refine ⟨?_, True.intro⟩
      rw [e, List.map_append]
      rfl
    · skip
      have e : drawn c (i0 + 1) = ((drawn c i0).1 ++ [mix3 c i0 / 7 % 4096], (drawn c i0).2) := by
        rw [drawn_succ]; unfold drawStep; rw [if_neg]; intro z; rw [decide_eq_true z.1, decide_eq_true z.2] at hc1; cases hc1
      refine ws_cons (ws_set 5 nd (ed_bin (ed_callT (T := "int") (by rfl) B.«int» bb_int (ad_cons (ed_bin (ed_bin (ed_var 0 rfl) ed_int (by walk_at "b2")) (ed_bin (ed_bin (ed_var 4 rfl) ed_int (by walk_at "b2")) ed_int (by walk_at "b2")) (by walk_at "b2")) ad_nil) (by walk_at "bc")) ed_int (by walk_at "b2")) ?_)
      walk_at "env"
      refine ws_cons (ws_set 5 nd (ed_bin (ed_callT (T := "int") (by rfl) B.«int» bb_int (ad_cons (ed_bin (ed_bin (ed_bin (ed_var 5 rfl) (ed_var 5 rfl) (by walk_at "b2")) (ed_bin (ed_var 5 rfl) ed_int (by walk_at "b2")) (by walk_at "b2")) (ed_bin (ed_var 4 rfl) ed_int (by walk_at "b2")) (by walk_at "b2")) ad_nil) (by walk_at "bc")) ed_int (by walk_at "b2")) ?_)
      walk_at "env"
      refine ws_cons (ws_set 5 nd (ed_bin (ed_callT (T := "int") (by rfl) B.«int» bb_int (ad_cons (ed_bin (ed_bin (ed_bin (ed_var 5 rfl) (ed_var 5 rfl) (by walk_at "b2")) (ed_var 0 rfl) (by walk_at "b2")) (ed_bin ed_int (ed_var 4 rfl) (by walk_at "b2")) (by walk_at "b2")) ad_nil) (by walk_at "bc")) ed_int (by walk_at "b2")) ?_)
      walk_at "env"
      refine ws_cons (ws_append 2 rfl (ed_bin (ed_bin (ed_var 5 rfl) ed_int (by walk_at "b2")) ed_int (by walk_at "b2")) (by rw [List.length_map, (draws_spec c i0).1, sizeLine_eq]; have := (List.getElem?_eq_some_iff.mp hx0).1; rw [List.length_range] at this; omega) ?_ (fun h => ps_expr (pe_bm PySem.F.plainAttrs_list PySem.F.slot_list_append PySem.F.type_list_append mt_append (pv 2) h)))
      walk_at "env"
      refine ws_nil ?_
      refine ws_nil ?_
      refine ⟨?_, True.intro⟩
      rw [e, List.map_append]
      rfl
  · intro u0 hP0
    walk_at "env"
    rw [List.length_range]
    refine ws_share 2 rfl ?_
    refine ws_cons (ws_ret (ED.eq (ed_var 2 rfl) ?_) (Or.inl rfl))
    rfl
abbrev s_law_is_text : Stmt := top 33
theorem sc_law_is_text : FnScope ["x", "due"] ["x", "due"] (defScope s_law_is_text) := ⟨rfl, rfl, rfl, by decide +kernel, rfl, by decide +kernel, by decide +kernel⟩
theorem ok_law_is_text {f : Addr} {fd : FuncData} (F : Fun K "_law_is_text" "_law_is_text" s_law_is_text f fd) (B : Bt mg) (KC : Kt K mg) (KL : Lt K mg) (XF : Xt K mg)  :
    FnOk P w K mg base CX0 1 f fd ["x", "due"] (spR K R_law_is_text) := by
  refine fn_ok (k := 0) F sc_law_is_text (fun ds d h => by cases h; rfl) fun ds d hR cdv A outer s H E hr => ?_
  have nd := sc_law_is_text.nd
  have hu := hr.units
  rcases hR with ⟨z⟩
  walk_at "en"
  refine ws_cons (ws_ret (ED.eq (ed_and (ed_callB (id := "isinstance") (by rfl) B.«isinstance» bb_isinstance (ad_cons (ed_var 0 rfl) (ad_cons (ed_ty (n := "str") (by rfl) B.«str» bb_str) ad_nil)) (bc_isi (c := "str") (by rfl) (by rfl))) (fun hb1 => (ed_one (ed_cmp (ed_var 0 rfl) (ed_var 1 rfl) (by walk_at "c2"))))) ?_) (Or.inl rfl))
  rw [decide_eq_true (rfl : z = z)]
  rfl
abbrev s_law_is_texts : Stmt := top 34
theorem sc_law_is_texts : FnScope ["x", "due", "kind", "k"] ["x", "due", "kind"] (defScope s_law_is_texts) := ⟨rfl, rfl, rfl, by decide +kernel, rfl, by decide +kernel, by decide +kernel⟩
theorem ok_law_is_texts {f : Addr} {fd : FuncData} (F : Fun K "_law_is_texts" "_law_is_texts" s_law_is_texts f fd) (B : Bt mg) (KC : Kt K mg) (KL : Lt K mg) (XF : Xt K mg) (G_law_is_text : Fn P w K mg base "_law_is_text" 1 R_law_is_text) :
    FnOk P w K mg base CX0 2 f fd ["x", "due", "kind"] (spR K R_law_is_texts) := by
  refine fn_ok (k := 1) F sc_law_is_texts (fun ds d h => by cases h; rfl) fun ds d hR cdv A outer s H E hr => ?_
  have nd := sc_law_is_texts.nd
  have hu := hr.units
  rcases hR with ⟨zs, hz⟩
  walk_at "en"
  refine ws_cons (ws_if (td_tw (tw_or (td_tw (tw_and (td_cmp (ed_var 2 rfl) ed_str (by walk_at "c2")) (fun hb3 => (tw_and1 (td_not (td_truth (ed_callB (id := "isinstance") (by rfl) B.«isinstance» bb_isinstance (ad_cons (ed_var 0 rfl) (ad_cons (ed_ty (n := "list") (by rfl) B.«list» bb_list) ad_nil)) (bc_isi (c := "list") (by rfl) (by rfl))) rfl)))))) (fun hb4 => (tw_or1 (td_tw (tw_and (td_cmp (ed_var 2 rfl) ed_str (by walk_at "c2")) (fun hb2 => (tw_and1 (td_not (td_truth (ed_callB (id := "isinstance") (by rfl) B.«isinstance» bb_isinstance (ad_cons (ed_var 0 rfl) (ad_cons (ed_ty (n := "tuple") (by rfl) B.«tuple» bb_tuple) ad_nil)) (bc_isi (c := "tuple") (by rfl) (by rfl))) rfl)))))))))) (fun hc1 => ?_) (fun hc1 => ?_))
  · skip
    exfalso; cases hc1
  · skip
    clear hc1
    refine ws_nil ?_
    refine ws_cons (ws_if (td_cmp (ed_callB (id := "len") (by rfl) B.«len» bb_len (ad_cons (ed_var 0 rfl) ad_nil) (by walk_at "bc")) (ed_callB (id := "len") (by rfl) B.«len» bb_len (ad_cons (ed_var 1 rfl) ad_nil) (by walk_at "bc")) (by walk_at "c2")) (fun hc5 => ?_) (fun hc5 => ?_))
    · skip
      exfalso; simp at hc5
    · skip
      clear hc5
      refine ws_nil ?_
      refine ws_cons (ws_forU (List.range (zs.length)) (fun (i : Nat) => D.int (i : Int)) rfl (id_range1 (by rfl) B.«range» (ed_callB (id := "len") (by rfl) B.«len» bb_len (ad_cons (ed_var 1 rfl) ad_nil) (by walk_at "bc")) (by walk_at "side")) (by rw [List.length_map, Int.toNat_natCast]; exact rngD0 _) (U := Sl) (fun i u => [(3, u)]) (fun r => (r.getD 3 .no)) (fun _ => True) (rfl) (True.intro) ?_ ?_)
      · intro i0 t u0 hx0 hP0
        obtain rfl : i0 = t := by
          obtain ⟨hl, he⟩ := List.getElem?_eq_some_iff.mp hx0
          rw [List.getElem_range] at he; exact he
        have hi0 : i0 < zs.length := by have := (List.getElem?_eq_some_iff.mp hx0).1; rwa [List.length_range] at this
        refine ⟨_, _, (dg_name 3 nd), ?_⟩
        walk_at "env"
        refine ws_cons (ws_if (td_not (td_truth (ed_call G_law_is_text (hr.mono (by decide)) (by rfl) (ad_cons (ed_ix (d := .str (zs.getD i0 "")) (ed_var 0 rfl) (ed_var 3 rfl) (.l (atI_nat (by rw [List.getElem?_map, List.getD_eq_getElem?_getD, List.getElem?_eq_getElem hi0]; rfl)))) (ad_cons (ed_ix (d := .str (zs.getD i0 "")) (ed_var 1 rfl) (ed_var 3 rfl) (.l (atI_nat (by rw [List.getElem?_map, List.getD_eq_getElem?_getD, List.getElem?_eq_getElem hi0]; rfl)))) ad_nil)) (by exact .mk _)) rfl)) (fun hc6 => ?_) (fun hc6 => ?_))
        · skip
          exfalso; simp at hc6
        · skip
          clear hc6
          refine ws_nil ?_
          refine ws_nil ?_
          exact ⟨rfl, True.intro⟩
      · intro u0 hP0
        walk_at "env"
        refine ws_cons (ws_ret (ED.eq ed_bl ?_) (Or.inl rfl))
        rfl
abbrev s_law_name : Stmt := top 35
theorem sc_law_name : FnScope ["draw", "letters", "tail"] ["draw"] (defScope s_law_name) := ⟨rfl, rfl, rfl, by decide +kernel, rfl, by decide +kernel, by decide +kernel⟩
theorem ok_law_name {f : Addr} {fd : FuncData} (F : Fun K "_law_name" "_law_name" s_law_name f fd) (B : Bt mg) (KC : Kt K mg) (KL : Lt K mg) (XF : Xt K mg)  :
    FnOk P w K mg base CX0 1 f fd ["draw"] (spR K R_law_name) := by
  refine fn_ok (k := 0) F sc_law_name (fun ds d h => by cases h; rfl) fun ds d hR cdv A outer s H E hr => ?_
  have nd := sc_law_name.nd
  have hu := hr.units
  rcases hR with ⟨d, hd⟩
  walk_at "en"
  refine ws_cons (ws_set 1 nd ed_str ?_)
  walk_at "env"
  refine ws_cons (ws_setO 2 nd (eo_lst (ad_cons ed_str (ad_cons ed_str (ad_cons ed_str (ad_cons ed_str (ad_cons ed_str (ad_cons ed_str ad_nil))))))) ?_)
  refine ws_share 2 rfl ?_
  walk_at "env"
  refine ws_cons (ws_ret (ED.eq (ed_bin (ed_ixS (ed_var 1 rfl) (ed_bin (ed_var 0 rfl) ed_int (by walk_at "b2")) (by decide +kernel) (at_ltr (by omega) (by omega))) (ed_ix (ed_var 2 rfl) (ed_bin (ed_bin (ed_var 0 rfl) ed_int (by walk_at "b2")) ed_int (by walk_at "b2")) (.l (at_tls (by omega) (by omega)))) (b2_addS (by have := tls_len (d / 26 % 6).toNat; rw [sizeLine_eq]; show 1 + _ ≤ _; omega))) ?_) (Or.inl rfl))
  rfl
abbrev s_law_qcircuit : Stmt := top 36
theorem sc_law_qcircuit : FnScope ["cell", "nets", "most", "draws", "count", "names", "net", "devices", "k", "row", "ends"] ["cell", "nets", "most"] (defScope s_law_qcircuit) := ⟨rfl, rfl, rfl, by decide +kernel, rfl, by decide +kernel, by decide +kernel⟩
theorem ok_law_qcircuit {f : Addr} {fd : FuncData} (F : Fun K "_law_qcircuit" "_law_qcircuit" s_law_qcircuit f fd) (B : Bt mg) (KC : Kt K mg) (KL : Lt K mg) (XF : Xt K mg) (G_law_draws : Fn P w K mg base "_law_draws" 1 R_law_draws) (G_law_name : Fn P w K mg base "_law_name" 1 R_law_name) :
    FnOk P w K mg base CX0 2 f fd ["cell", "nets", "most"] (spR K R_law_qcircuit) := by
  refine fn_ok (k := 1) F sc_law_qcircuit (fun ds d h => by cases h; rfl) fun ds d hR cdv A outer s H E hr => ?_
  have nd := sc_law_qcircuit.nd
  have hu := hr.units
  rcases hR with ⟨c, nets, most, h1, h2⟩
  have hcn := qCnt_lo (c := c) (most := most) h1.1
  have hqm := qm_le c nets most h2.1
  walk_at "en"
  refine ws_cons (ws_set 3 nd (ed_call G_law_draws (hr.mono (by decide)) (by rfl) (ad_cons (ed_var 0 rfl) (ad_cons (ed_bin (ed_bin (ed_bin ed_int (ed_var 2 rfl) (by walk_at "b2")) (ed_var 1 rfl) (by walk_at "b2")) ed_int (by walk_at "b2")) ad_nil)) (by first | exact .mk _ _ (by decide) (by decide) | exact .mk _ _ (by omega) (by omega))) ?_)
  walk_at "env"
  refine ws_cons (ws_set 4 nd (ED.eq (ed_bin (ed_ix (ed_var 3 rfl) ed_int (by walk_at "ix")) (ed_bin (ed_var 1 rfl) ed_int (by walk_at "b2")) (by walk_at "b2")) (show _ = (D.int (qCnt c nets most)) from by rfl)) ?_)
  walk_at "env"
  refine ws_cons (ws_setO 5 nd (eo_lst ad_nil) ?_)
  walk_at "env"
  refine ws_cons (ws_forU (List.range ((qCnt c nets most).toNat)) (fun (i : Nat) => D.int (i : Int)) rfl (id_range1 (by rfl) B.«range» (ed_var 4 rfl) (by walk_at "side")) (by exact rngD0 _) (U := Sl) (fun i u => [(5, .ow (.lst ((qN c (5 * most + nets + 2) i).map nmE))), (6, u)]) (fun r => (r.getD 6 .no)) (fun _ => True) (rfl) (True.intro) ?_ ?_)
  · intro i0 t u0 hx0 hP0
    obtain rfl : i0 = t := by
      obtain ⟨hl, he⟩ := List.getElem?_eq_some_iff.mp hx0
      rw [List.getElem_range] at he; exact he
    have hi0 : i0 < (qCnt c nets most).toNat := by have := (List.getElem?_eq_some_iff.mp hx0).1; rwa [List.length_range] at this
    refine ⟨_, _, (dg_name 6 nd), ?_⟩
    walk_at "env"
    refine ws_cons (ws_if (td_cmp (ed_bin (ed_ix (ed_var 3 rfl) (ed_bin ed_int (ed_var 6 rfl) (by walk_at "b2")) (by walk_at "ix")) ed_int (by walk_at "b2")) ed_int (by walk_at "c2")) (fun hc1 => ?_) (fun hc1 => ?_))
    · skip
      have hf := of_decide_eq_true hc1
      refine ws_cons (ws_append 5 rfl (ed_tup (ad_cons (ed_var 6 rfl) (ad_cons (ed_bin (ed_bin (ed_sliceS (ed_call G_law_name (hr.mono (by decide)) (by rfl) (ad_cons (ed_bin (ed_ix (ed_var 3 rfl) (ed_bin ed_int (ed_var 6 rfl) (by walk_at "b2")) (by walk_at "ix")) ed_int (by walk_at "b2")) ad_nil) (by exact .mk _ (by have := (dr_lo c (5 * most + nets + 2) (2 + (i0 : Int))).1; omega))) (nmOf_len _) no_part (some_part ed_int)) ed_str (b2_addS (q1_len _))) (ed_callT (T := "str") (by rfl) B.«str» bb_str (ad_cons (ed_var 6 rfl) ad_nil) (bc_strI (log_small hi0 (by omega)))) (b2_addS (q2_len _ (by omega)))) ad_nil))) (by first | (have := qN_len c (5 * most + nets + 2) i0; rw [List.length_map, sizeLine_eq]; omega) | (rw [List.length_map, qV_len, sizeLine_eq]; omega)) ?_ (fun h => ps_expr (pe_bm PySem.F.plainAttrs_list PySem.F.slot_list_append PySem.F.type_list_append mt_append (pv 5) h)))
      walk_at "env"
      refine ws_nil ?_
      refine ws_nil ?_
      refine ⟨?_, True.intro⟩
      first
        | (rw [qN_yes hf, List.map_append]; rfl)
        | (rw [qN_no hf]; rfl)
    · skip
      have hf := of_decide_eq_false hc1
      refine ws_nil ?_
      refine ws_nil ?_
      refine ⟨?_, True.intro⟩
      first
        | (rw [qN_yes hf, List.map_append]; rfl)
        | (rw [qN_no hf]; rfl)
  · intro u0 hP0
    walk_at "env"
    rw [List.length_range]
    refine ws_share 5 rfl ?_
    walk_at "env"
    refine ws_cons (ws_setO 7 nd (eo_lst ad_nil) ?_)
    walk_at "env"
    refine ws_cons (ws_forU (List.range (qm c nets most)) (fun (i : Nat) => D.int (i : Int)) rfl (id_range1 (by rfl) B.«range» (ED.eq (ed_bin (ed_bin (ed_ix (ed_var 3 rfl) ed_int (by walk_at "ix")) (ed_bin (ed_var 2 rfl) ed_int (by walk_at "b2")) (by walk_at "b2")) (ed_callT (T := "int") (by rfl) B.«int» bb_int (ad_cons (ed_cmp (ed_var 4 rfl) ed_int (by walk_at "c2")) ad_nil) (bc_intB)) (b2_mul (Or.inr (by split <;> decide)))) (show _ = D.int ((qm c nets most : Nat) : Int) from congrArg D.int (qm_mul h2.1))) (by walk_at "side")) (by rw [Int.toNat_natCast]; exact rngD0 _) (U := Sl × Sl × Sl) (fun i u => [(7, .ow (.lst ((qV c (5 * most + nets + 2) nets (qCnt c nets most) i).map Dev.e))), (8, u.1), (9, u.2.1), (10, u.2.2)]) (fun r => (r.getD 8 .no, r.getD 9 .no, r.getD 10 .no)) (fun _ => True) (rfl) (True.intro) ?_ ?_)
    · intro i1 t u1 hx1 hP1
      obtain rfl : i1 = t := by
        obtain ⟨hl, he⟩ := List.getElem?_eq_some_iff.mp hx1
        rw [List.getElem_range] at he; exact he
      have hi1 : i1 < qm c nets most := by have := (List.getElem?_eq_some_iff.mp hx1).1; rwa [List.length_range] at this
      have hcp := qm_pos hi1
      refine ⟨_, _, (dg_name 8 nd), ?_⟩
      walk_at "env"
      refine ws_cons (ws_setO 9 nd (EO.eq (c' := .lst [.int (dr c (5 * most + nets + 2) ((nets + 2 + 5 * (i1 : Int)) + 0)), .int (dr c (5 * most + nets + 2) ((nets + 2 + 5 * (i1 : Int)) + 1)), .int (dr c (5 * most + nets + 2) ((nets + 2 + 5 * (i1 : Int)) + 2)), .int (dr c (5 * most + nets + 2) ((nets + 2 + 5 * (i1 : Int)) + 3)), .int (dr c (5 * most + nets + 2) ((nets + 2 + 5 * (i1 : Int)) + 4))]) (eo_slice (ed_var 3 rfl) (some_part (ed_bin (ed_bin (ed_var 1 rfl) ed_int (by walk_at "b2")) (ed_bin ed_int (ed_var 8 rfl) (by walk_at "b2")) (by walk_at "b2"))) (some_part (ed_bin (ed_bin (ed_var 1 rfl) ed_int (by walk_at "b2")) (ed_bin ed_int (ed_var 8 rfl) (by walk_at "b2")) (by walk_at "b2")))) (by rw [show nets + 7 + 5 * (i1 : Int) = (nets + 2 + 5 * (i1 : Int)) + 5 by omega, cut5 (by omega) (by omega)])) ?_)
      refine ws_share 9 rfl ?_
      walk_at "env"
      refine ws_cons (ws_setO 10 nd (eo_callB (id := "sorted") (by rfl) B.«sorted» bb_sorted (ad_cons (ed_lst (eo_lst (ad_cons (ed_bin (ed_ix (ed_var 9 rfl) ed_int (by walk_at "ix")) (ed_var 4 rfl) (by walk_at "b2")) (ad_cons (ed_bin (ed_ix (ed_var 9 rfl) ed_int (by walk_at "ix")) (ed_var 4 rfl) (by walk_at "b2")) ad_nil)))) ad_nil) bo_sorted2) ?_)
      refine ws_share 10 rfl ?_
      walk_at "env"
      refine ws_cons (ws_append 7 rfl (ed_tup (ad_cons (ed_ix (ed_lst (eo_lst (ad_cons ed_str (ad_cons ed_str ad_nil)))) (ed_bin (ed_ix (ed_var 9 rfl) ed_int (by walk_at "ix")) ed_int (by walk_at "b2")) (ix_kind _)) (ad_cons (ed_bin (ed_ix (ed_var 9 rfl) ed_int (by walk_at "ix")) (ed_var 4 rfl) (by walk_at "b2")) (ad_cons (ed_ix (ed_var 10 rfl) ed_int (by walk_at "ix")) (ad_cons (ed_ix (ed_var 10 rfl) ed_int (by walk_at "ix")) (ad_cons (ed_bin ed_int (ed_bin (ed_ix (ed_var 9 rfl) ed_int (by walk_at "ix")) ed_int (by walk_at "b2")) (by walk_at "b2")) (ad_cons (ed_bin ed_int (ed_bin (ed_bin (ed_ix (ed_var 9 rfl) ed_int (by walk_at "ix")) ed_int (by walk_at "b2")) ed_int (by walk_at "b2")) (by walk_at "b2")) ad_nil))))))) (by first | (have := qN_len c (5 * most + nets + 2) i0; rw [List.length_map, sizeLine_eq]; omega) | (rw [List.length_map, qV_len, sizeLine_eq]; omega)) ?_ (fun h => ps_expr (pe_bm PySem.F.plainAttrs_list PySem.F.slot_list_append PySem.F.type_list_append mt_append (pv 7) h)))
      walk_at "env"
      refine ws_nil ?_
      refine ⟨?_, True.intro⟩
      rw [qV_succ, List.map_append]
      rfl
    · intro u1 hP1
      walk_at "env"
      rw [List.length_range]
      refine ws_share 7 rfl ?_
      walk_at "env"
      refine ws_cons (ws_ret (ED.eq (ed_tup (ad_cons (ed_var 4 rfl) (ad_cons (ed_var 5 rfl) (ad_cons (ed_var 7 rfl) ad_nil)))) ?_) (Or.inl rfl))
      rfl
abbrev s_law_qreach : Stmt := top 37
theorem sc_law_qreach : FnScope ["count", "devices", "fixed", "values", "starts", "levels", "found", "here", "turn", "more", "kind", "gate", "first", "second", "width", "length", "level", "near", "far", "net"] ["count", "devices", "fixed", "values", "starts", "levels"] (defScope s_law_qreach) := ⟨rfl, rfl, rfl, by decide +kernel, rfl, by decide +kernel, by decide +kernel⟩
theorem ok_law_qreach {f : Addr} {fd : FuncData} (F : Fun K "_law_qreach" "_law_qreach" s_law_qreach f fd) (B : Bt mg) (KC : Kt K mg) (KL : Lt K mg) (XF : Xt K mg)  :
    FnOk P w K mg base CX0 1 f fd ["count", "devices", "fixed", "values", "starts", "levels"] (spR K R_law_qreach) := by
  refine fn_ok (k := 0) F sc_law_qreach (fun ds d h => by cases h; rfl) fun ds d hR cdv A outer s H E hr => ?_
  have nd := sc_law_qreach.nd
  have hu := hr.units
  rcases hR with ⟨n, V, P, vals, starts, levels, ok, hv, hs, hk, hn, hl, hpl⟩
  walk_at "en"
  refine ws_cons (ws_setMap2 6 [("net", 19)] (List.range n) (fun (i : Nat) => D.int (i : Int)) (fun _ => false) (D.bl) rfl nd (blkOk_by (N := ["count", "devices", "fixed", "values", "starts", "levels", "found", "here", "turn", "more", "kind", "gate", "first", "second", "width", "length", "level", "near", "far", "net"]) (sc := defScope s_law_qreach) (by decide +kernel)) (id_range1 (by rfl) B.«range» (ed_var 0 rfl) (by walk_at "side")) (by rw [Int.toNat_natCast]; exact rngD0 _) (fun t hxm => ⟨_, by rfl, fun _ _ _ _ _ => ⟨(dg_name 19 nd), tds_nil, ed_bl⟩⟩) (by rw [List.length_range, sizeLine_eq]; omega) ?_)
  walk_at "env"
  have er : ((List.range n).map (fun _ => false)).map D.bl = (List.replicate n false).map D.bl := by rw [List.map_map]; exact rep_map n
  rw [er]
  refine ws_cons (ws_setFilterK 2 7 [("net", 19)] (hrP P vals starts) rfl nd (blkOk_by (N := ["count", "devices", "fixed", "values", "starts", "levels", "found", "here", "turn", "more", "kind", "gate", "first", "second", "width", "length", "level", "near", "far", "net"]) (sc := defScope s_law_qreach) (by decide +kernel)) rfl (fun q hq => by
    obtain ⟨p0, hp0, rfl⟩ := List.mem_map.mp hq
    have hk0 := hk p0 hp0
    have hfx : fxB P p0.1 = true := by unfold fxB; rw [hasK_iff]; exact hq
    have hcv : hrP P vals starts (kI p0.1) = decide (vlC vals p0.1 ∈ starts.cps.toList) := by show s1B P vals starts p0.1 = _; unfold s1B; rw [hfx, Bool.true_and]
    exact turn_if (fun hp1 => ⟨_, by rfl, fun _ _ _ _ _ => ⟨(dg_name 19 nd), tds_one (TD.eq (td_cmp (ed_ixS (c := vlC vals p0.1) (ed_var 3 rfl) (ed_var 19 rfl) (by show vals.cps.toList.length ≤ _; rw [sizeLine_eq]; omega) (vl_at hk0.1 hk0.2 hv)) (ed_var 4 rfl) c2_inSign (by rfl)) (hcv ▸ hp1)), (ed_var 19 rfl)⟩⟩) (fun hp1 => ⟨_, by rfl, fun _ _ _ _ _ => ⟨(dg_name 19 nd), tds_one (TD.eq (td_cmp (ed_ixS (c := vlC vals p0.1) (ed_var 3 rfl) (ed_var 19 rfl) (by show vals.cps.toList.length ≤ _; rw [sizeLine_eq]; omega) (vl_at hk0.1 hk0.2 hv)) (ed_var 4 rfl) c2_inSign (by rfl)) (hcv ▸ hp1))⟩⟩)) (by rw [fxK, List.length_map, sizeLine_eq]; omega) ?_)
  rw [show (((fxK P).filter (hrP P vals starts)).map kD) = (hrS P vals starts).map D.int from hr_eq]
  walk_at "env"
  refine ws_share 7 rfl ?_
  walk_at "env"
  refine ws_cons (ws_forUB (List.range (n + 1)) (fun (i : Nat) => D.int (i : Int)) rfl (id_range1 (by rfl) B.«range» (ed_bin (ed_var 0 rfl) ed_int (by walk_at "b2")) (by walk_at "side")) (by rw [show ((n : Int) + 1).toNat = n + 1 by omega]; exact rngD0 _) (U := Sl × Sl × Sl × Sl × Sl × Sl × Sl × Sl × Sl × Sl × Sl) (fun i u => [(6, .ow (.lst ((rchI n V P vals starts levels i).1.map .bl))), (7, .sh (.lst ((rchI n V P vals starts levels i).2.map .int))), (8, u.1), (9, u.2.1), (10, u.2.2.1), (11, u.2.2.2.1), (12, u.2.2.2.2.1), (13, u.2.2.2.2.2.1), (14, u.2.2.2.2.2.2.1), (15, u.2.2.2.2.2.2.2.1), (16, u.2.2.2.2.2.2.2.2.1), (17, u.2.2.2.2.2.2.2.2.2.1), (18, u.2.2.2.2.2.2.2.2.2.2)]) (fun r => (r.getD 8 .no, r.getD 9 .no, r.getD 10 .no, r.getD 11 .no, r.getD 12 .no, r.getD 13 .no, r.getD 14 .no, r.getD 15 .no, r.getD 16 .no, r.getD 17 .no, r.getD 18 .no)) (fun _ => True) (rfl) (True.intro) ?_ ?_)
  · intro i0 t u0 hx0 hP0
    obtain rfl : i0 = t := by
      obtain ⟨hl, he⟩ := List.getElem?_eq_some_iff.mp hx0
      rw [List.getElem_range] at he; exact he
    have hi0 : i0 < n + 1 := by have := (List.getElem?_eq_some_iff.mp hx0).1; rwa [List.length_range] at this
    obtain ⟨T0, hT0⟩ : ∃ T0, T0 = (rchI n V P vals starts levels i0) := ⟨_, rfl⟩
    have hTl : T0.1.length = n := by rw [hT0]; exact (rit_len i0).trans List.length_replicate
    have hT1 : (rchI n V P vals starts levels (i0 + 1)) = rturn (lvB levels vals) (fxB P) V T0 := by rw [hT0]; rfl
    rw [← hT0]
    refine ⟨_, _, (dg_name 8 nd), ?_⟩
    walk_at "env"
    refine ws_cons (ws_setO 9 nd (eo_lst ad_nil) ?_)
    walk_at "env"
    refine ws_cons (ws_forU (V) (Dev.e) rfl (id_list (ed_var 1 rfl)) (by rfl) (U := Sl × Sl × Sl × Sl × Sl × Sl × Sl × Sl × Sl) (fun i u => [(6, .ow (.lst (((V.take i).foldl (rdev (lvB levels vals) T0.2 (fxB P)) (T0.1, [])).1.map .bl))), (9, .ow (.lst (((V.take i).foldl (rdev (lvB levels vals) T0.2 (fxB P)) (T0.1, [])).2.map .int))), (10, u.1), (11, u.2.1), (12, u.2.2.1), (13, u.2.2.2.1), (14, u.2.2.2.2.1), (15, u.2.2.2.2.2.1), (16, u.2.2.2.2.2.2.1), (17, u.2.2.2.2.2.2.2.1), (18, u.2.2.2.2.2.2.2.2)]) (fun r => (r.getD 10 .no, r.getD 11 .no, r.getD 12 .no, r.getD 13 .no, r.getD 14 .no, r.getD 15 .no, r.getD 16 .no, r.getD 17 .no, r.getD 18 .no)) (fun _ => True) (rfl) (True.intro) ?_ ?_)
    · intro i1 v u1 hx1 hP1
      have okv := ok v (List.mem_of_getElem? hx1)
      have hlt1 : i1 < V.length := (List.getElem?_eq_some_iff.mp hx1).1
      obtain ⟨s1, hs1⟩ : ∃ s1, s1 = ((V.take i1).foldl (rdev (lvB levels vals) T0.2 (fxB P)) (T0.1, [])) := ⟨_, rfl⟩
      have hs2 : ((V.take (i1 + 1)).foldl (rdev (lvB levels vals) T0.2 (fxB P)) (T0.1, [])) = rdev (lvB levels vals) T0.2 (fxB P) s1 v := by rw [List.take_add_one, hx1, hs1]; simp only [Option.toList, List.foldl_append]; rfl
      have hsl : s1.1.length = n ∧ s1.2.length ≤ 400 := by
        have h := rfold_len (p := lvB levels vals) (here := T0.2) (fx := fxB P) (V.take i1) (T0.1, [])
        rw [← hs1] at h
        rw [List.length_take] at h
        exact ⟨h.1.trans hTl, by have := h.2; simp only [List.length_nil] at this; omega⟩
      rw [← hs1]
      refine ⟨_, _, (dg_tup rfl (dgs_cons (dg_name 10 nd) (dgs_cons (dg_name 11 nd) (dgs_cons (dg_name 12 nd) (dgs_cons (dg_name 13 nd) (dgs_cons (dg_name 14 nd) (dgs_cons (dg_name 15 nd) dgs_nil))))))), ?_⟩
      walk_at "env"
      refine ws_cons (ws_set 16 nd (ed_ixS (c := vlC vals v.g) (ed_var 3 rfl) (ed_var 11 rfl) (by show vals.cps.toList.length ≤ _; rw [sizeLine_eq]; omega) (vl_at okv.g.1 okv.g.2 hv)) ?_)
      walk_at "env"
      refine ws_cons (ws_if (td_cmp (ed_var 10 rfl) ed_str (by walk_at "c2")) (fun hc2 => ?_) (fun hc2 => ?_))
      · skip
        have hlv : lvC vals v = flipC (vlC vals v.g) := if_pos (of_decide_eq_true hc2)
        refine ws_cons (ws_set 16 nd (ed_dix hu (ED.eq (ed_own (eo_disp (kds := flK) (pd_cons ed_str ed_str (pd_cons ed_str ed_str (pd_cons ed_str ed_str pd_nil))) (by decide +kernel))) (show _ = D.dk (flK.map (·.1)) (flK.map (·.2)) from rfl)) (ed_var 16 rfl) (k0 := .inr ⟨#[vlC vals v.g]⟩) (fl_look (vl_sgn hs okv.g.1 okv.g.2 hv))) ?_)
        walk_at "env"
        refine ws_nil ?_
        refine ws_cons (ws_if (td_cmp (ed_var 16 rfl) (ed_var 5 rfl) c2_inSign (by rfl)) (fun hc3 => ?_) (fun hc3 => ?_))
        · skip
          have hp : lvB levels vals v = true := by unfold lvB; rw [hlv]; exact hc3
          refine ws_cons (ws_forU (([(v.a, v.b), (v.b, v.a)] : List (Int × Int))) (fun q : Int × Int => D.tup [.int q.1, .int q.2]) rfl (id_list (ed_lst (eo_lst (ad_cons (ed_tup (ad_cons (ed_var 12 rfl) (ad_cons (ed_var 13 rfl) ad_nil))) (ad_cons (ed_tup (ad_cons (ed_var 13 rfl) (ad_cons (ed_var 12 rfl) ad_nil))) ad_nil))))) (by rfl) (U := Sl × Sl) (fun i u => [(6, .ow (.lst ((rpr T0.2 (fxB P) v s1 i).1.map .bl))), (9, .ow (.lst ((rpr T0.2 (fxB P) v s1 i).2.map .int))), (17, u.1), (18, u.2)]) (fun r => (r.getD 17 .no, r.getD 18 .no)) (fun _ => True) (rfl) (True.intro) ?_ ?_)
          · intro i2 q u2 hx2 hP2
            obtain ⟨s2, hs3⟩ : ∃ s2, s2 = rpr T0.2 (fxB P) v s1 i2 := ⟨_, rfl⟩
            have hs4 := rpr_succ (here := T0.2) (fx := fxB P) (s := s1) hx2
            have hsl2 := rpr_len (here := T0.2) (fx := fxB P) (v := v) (s := s1) i2
            rw [← hs3] at hs4 hsl2
            have hat := bAt_at (hsl2.1.trans hsl.1) (pair_in okv hx2)
            rw [← hs3]
            refine ⟨_, _, (dg_tup rfl (dgs_cons (dg_name 17 nd) (dgs_cons (dg_name 18 nd) dgs_nil))), ?_⟩
            walk_at "env"
            refine ws_cons (ws_if (td_tw (tw_and (td_cmp (ed_var 17 rfl) (ed_var 7 rfl) c2_inInts (by rfl)) (fun hb6 => (tw_and (td_cmp (ed_var 18 rfl) (ed_var 2 rfl) (c2_notInDk hu (k0 := kI q.2) rfl) (by rfl)) (fun hb5 => (tw_and1 (td_not (td_truth (ed_ixO 6 rfl (ed_var 18 rfl) hat.1) rfl)))))))) (fun hc4 => ?_) (fun hc4 => ?_))
            · skip
              have hc9 : (decide (q.1 ∈ T0.2) && (!fxB P q.2 && !bAt s2.1 q.2)) = true := hc4
              refine ws_cons (ws_lputO 6 rfl (ed_var 18 rfl) ed_bl hat.2 ?_)
              rw [← List.map_set]
              walk_at "env"
              refine ws_cons (ws_append 9 rfl (ed_var 18 rfl) (by rw [List.length_map, sizeLine_eq]; omega) ?_ (fun h => ps_expr (pe_bm PySem.F.plainAttrs_list PySem.F.slot_list_append PySem.F.type_list_append mt_append (pv 9) h)))
              walk_at "env"
              refine ws_nil ?_
              refine ws_nil ?_
              refine ⟨?_, True.intro⟩
              first | (rw [hs4, rst_yes hc9]; simp only [List.map_append, List.map_cons, List.map_nil]; rfl) | (rw [hs4, rst_no hc9]; rfl)
            · skip
              have hc9 : (decide (q.1 ∈ T0.2) && (!fxB P q.2 && !bAt s2.1 q.2)) = false := hc4
              refine ws_nil ?_
              refine ws_nil ?_
              refine ⟨?_, True.intro⟩
              first | (rw [hs4, rst_yes hc9]; simp only [List.map_append, List.map_cons, List.map_nil]; rfl) | (rw [hs4, rst_no hc9]; rfl)
          · intro u2 hP2
            walk_at "env"
            refine ws_nil ?_
            refine ws_nil ?_
            refine ⟨?_, True.intro⟩
            first | (rw [hs2, rdev, if_pos hp]; rfl) | (rw [hs2, rdev, if_neg hp]; rfl)
        · skip
          have hp : ¬ (lvB levels vals v = true) := by unfold lvB; rw [hlv]; rw [show decide _ = false from hc3]; decide
          refine ws_nil ?_
          refine ws_nil ?_
          refine ⟨?_, True.intro⟩
          first | (rw [hs2, rdev, if_pos hp]; rfl) | (rw [hs2, rdev, if_neg hp]; rfl)
      · skip
        have hlv : lvC vals v = vlC vals v.g := if_neg (of_decide_eq_false hc2)
        refine ws_nil ?_
        refine ws_cons (ws_if (td_cmp (ed_var 16 rfl) (ed_var 5 rfl) c2_inSign (by rfl)) (fun hc7 => ?_) (fun hc7 => ?_))
        · skip
          have hp : lvB levels vals v = true := by unfold lvB; rw [hlv]; exact hc7
          refine ws_cons (ws_forU (([(v.a, v.b), (v.b, v.a)] : List (Int × Int))) (fun q : Int × Int => D.tup [.int q.1, .int q.2]) rfl (id_list (ed_lst (eo_lst (ad_cons (ed_tup (ad_cons (ed_var 12 rfl) (ad_cons (ed_var 13 rfl) ad_nil))) (ad_cons (ed_tup (ad_cons (ed_var 13 rfl) (ad_cons (ed_var 12 rfl) ad_nil))) ad_nil))))) (by rfl) (U := Sl × Sl) (fun i u => [(6, .ow (.lst ((rpr T0.2 (fxB P) v s1 i).1.map .bl))), (9, .ow (.lst ((rpr T0.2 (fxB P) v s1 i).2.map .int))), (17, u.1), (18, u.2)]) (fun r => (r.getD 17 .no, r.getD 18 .no)) (fun _ => True) (rfl) (True.intro) ?_ ?_)
          · intro i2 q u2 hx2 hP2
            obtain ⟨s2, hs3⟩ : ∃ s2, s2 = rpr T0.2 (fxB P) v s1 i2 := ⟨_, rfl⟩
            have hs4 := rpr_succ (here := T0.2) (fx := fxB P) (s := s1) hx2
            have hsl2 := rpr_len (here := T0.2) (fx := fxB P) (v := v) (s := s1) i2
            rw [← hs3] at hs4 hsl2
            have hat := bAt_at (hsl2.1.trans hsl.1) (pair_in okv hx2)
            rw [← hs3]
            refine ⟨_, _, (dg_tup rfl (dgs_cons (dg_name 17 nd) (dgs_cons (dg_name 18 nd) dgs_nil))), ?_⟩
            walk_at "env"
            refine ws_cons (ws_if (td_tw (tw_and (td_cmp (ed_var 17 rfl) (ed_var 7 rfl) c2_inInts (by rfl)) (fun hb10 => (tw_and (td_cmp (ed_var 18 rfl) (ed_var 2 rfl) (c2_notInDk hu (k0 := kI q.2) rfl) (by rfl)) (fun hb9 => (tw_and1 (td_not (td_truth (ed_ixO 6 rfl (ed_var 18 rfl) hat.1) rfl)))))))) (fun hc8 => ?_) (fun hc8 => ?_))
            · skip
              have hc9 : (decide (q.1 ∈ T0.2) && (!fxB P q.2 && !bAt s2.1 q.2)) = true := hc8
              refine ws_cons (ws_lputO 6 rfl (ed_var 18 rfl) ed_bl hat.2 ?_)
              rw [← List.map_set]
              walk_at "env"
              refine ws_cons (ws_append 9 rfl (ed_var 18 rfl) (by rw [List.length_map, sizeLine_eq]; omega) ?_ (fun h => ps_expr (pe_bm PySem.F.plainAttrs_list PySem.F.slot_list_append PySem.F.type_list_append mt_append (pv 9) h)))
              walk_at "env"
              refine ws_nil ?_
              refine ws_nil ?_
              refine ⟨?_, True.intro⟩
              first | (rw [hs4, rst_yes hc9]; simp only [List.map_append, List.map_cons, List.map_nil]; rfl) | (rw [hs4, rst_no hc9]; rfl)
            · skip
              have hc9 : (decide (q.1 ∈ T0.2) && (!fxB P q.2 && !bAt s2.1 q.2)) = false := hc8
              refine ws_nil ?_
              refine ws_nil ?_
              refine ⟨?_, True.intro⟩
              first | (rw [hs4, rst_yes hc9]; simp only [List.map_append, List.map_cons, List.map_nil]; rfl) | (rw [hs4, rst_no hc9]; rfl)
          · intro u2 hP2
            walk_at "env"
            refine ws_nil ?_
            refine ws_nil ?_
            refine ⟨?_, True.intro⟩
            first | (rw [hs2, rdev, if_pos hp]; rfl) | (rw [hs2, rdev, if_neg hp]; rfl)
        · skip
          have hp : ¬ (lvB levels vals v = true) := by unfold lvB; rw [hlv]; rw [show decide _ = false from hc7]; decide
          refine ws_nil ?_
          refine ws_nil ?_
          refine ⟨?_, True.intro⟩
          first | (rw [hs2, rdev, if_pos hp]; rfl) | (rw [hs2, rdev, if_neg hp]; rfl)
    · intro u1 hP1
      walk_at "env"
      rw [List.take_length]
      rw [show (V.foldl (rdev (lvB levels vals) T0.2 (fxB P)) (T0.1, [])) = rturn (lvB levels vals) (fxB P) V T0 from rfl]
      refine ws_share 9 rfl ?_
      walk_at "env"
      refine ws_cons (ws_set 7 nd (ed_var 9 rfl) ?_)
      walk_at "env"
      refine ws_cons (ws_if (td_cmp (ed_callB (id := "len") (by rfl) B.«len» bb_len (ad_cons (ed_var 7 rfl) ad_nil) (by walk_at "bc")) ed_int (by walk_at "c2")) (fun hc11 => ?_) (fun hc11 => ?_))
      · skip
        have hemp : (rturn (lvB levels vals) (fxB P) V T0).2 = [] := by
          have := of_decide_eq_true hc11
          rw [List.length_map] at this
          exact List.length_eq_zero_iff.mp (by omega)
        refine ws_cons (ws_break ?_)
        have hst : (rchI n V P vals starts levels (List.range (n + 1)).length) = (rchI n V P vals starts levels (i0 + 1)) := by
          have := rit_stop (p := lvB levels vals) (fx := fxB P) (V := V) (s := rch0 n P vals starts) (i := i0 + 1) (by have e : rchI n V P vals starts levels (i0 + 1) = rit (lvB levels vals) (fxB P) V (rch0 n P vals starts) (i0 + 1) := rfl; rw [← e, hT1]; exact hemp) (n - i0)
          rw [List.length_range]; rwa [show i0 + 1 + (n - i0) = n + 1 by omega] at this
        refine ⟨?_, True.intro⟩
        rw [hst, hT1]
        rfl
      · skip
        clear hc11
        refine ws_nil ?_
        refine ws_nil ?_
        refine ⟨?_, True.intro⟩
        rw [hT1]
        rfl
  · intro u0 hP0
    walk_at "env"
    rw [List.length_range]
    refine ws_share 6 rfl ?_
    walk_at "env"
    refine ws_cons (ws_ret (ED.eq (ed_var 6 rfl) ?_) (Or.inl rfl))
    rfl
abbrev s_law_qnext : Stmt := top 38
theorem sc_law_qnext : FnScope ["count", "devices", "fixed", "values", "high", "low", "maybe_high", "maybe_low", "text", "net", "value"] ["count", "devices", "fixed", "values"] (defScope s_law_qnext) := ⟨rfl, rfl, rfl, by decide +kernel, rfl, by decide +kernel, by decide +kernel⟩
theorem ok_law_qnext {f : Addr} {fd : FuncData} (F : Fun K "_law_qnext" "_law_qnext" s_law_qnext f fd) (B : Bt mg) (KC : Kt K mg) (KL : Lt K mg) (XF : Xt K mg) (G_law_qreach : Fn P w K mg base "_law_qreach" 1 R_law_qreach) :
    FnOk P w K mg base CX0 2 f fd ["count", "devices", "fixed", "values"] (spR K R_law_qnext) := by
  refine fn_ok (k := 1) F sc_law_qnext (fun ds d h => by cases h; rfl) fun ds d hR cdv A outer s H E hr => ?_
  have nd := sc_law_qnext.nd
  have hu := hr.units
  rcases hR with ⟨n, V, P, vals, ok, hv, hs, hk, hn, hl, hpl, hP⟩
  walk_at "en"
  refine ws_cons (ws_set 4 nd (ed_call G_law_qreach (hr.mono (by decide)) (by rfl) (ad_cons (ed_var 0 rfl) (ad_cons (ed_var 1 rfl) (ad_cons (ed_var 2 rfl) (ad_cons (ed_var 3 rfl) (ad_cons ed_str (ad_cons ed_str ad_nil)))))) (by exact .mk _ _ _ _ _ _ (by assumption) (by assumption) (by assumption) (by assumption) (by assumption) (by assumption) (by assumption))) ?_)
  walk_at "env"
  refine ws_cons (ws_set 5 nd (ed_call G_law_qreach (hr.mono (by decide)) (by rfl) (ad_cons (ed_var 0 rfl) (ad_cons (ed_var 1 rfl) (ad_cons (ed_var 2 rfl) (ad_cons (ed_var 3 rfl) (ad_cons ed_str (ad_cons ed_str ad_nil)))))) (by exact .mk _ _ _ _ _ _ (by assumption) (by assumption) (by assumption) (by assumption) (by assumption) (by assumption) (by assumption))) ?_)
  walk_at "env"
  refine ws_cons (ws_set 6 nd (ed_call G_law_qreach (hr.mono (by decide)) (by rfl) (ad_cons (ed_var 0 rfl) (ad_cons (ed_var 1 rfl) (ad_cons (ed_var 2 rfl) (ad_cons (ed_var 3 rfl) (ad_cons ed_str (ad_cons ed_str ad_nil)))))) (by exact .mk _ _ _ _ _ _ (by assumption) (by assumption) (by assumption) (by assumption) (by assumption) (by assumption) (by assumption))) ?_)
  walk_at "env"
  refine ws_cons (ws_set 7 nd (ed_call G_law_qreach (hr.mono (by decide)) (by rfl) (ad_cons (ed_var 0 rfl) (ad_cons (ed_var 1 rfl) (ad_cons (ed_var 2 rfl) (ad_cons (ed_var 3 rfl) (ad_cons ed_str (ad_cons ed_str ad_nil)))))) (by exact .mk _ _ _ _ _ _ (by assumption) (by assumption) (by assumption) (by assumption) (by assumption) (by assumption) (by assumption))) ?_)
  walk_at "env"
  refine ws_cons (ws_set 8 nd ed_str ?_)
  walk_at "env"
  refine ws_cons (ws_forU (List.range (n)) (fun (i : Nat) => D.int (i : Int)) rfl (id_range1 (by rfl) B.«range» (ed_var 0 rfl) (by walk_at "side")) (by rw [Int.toNat_natCast]; exact rngD0 _) (U := Sl × Sl) (fun i u => [(8, .sh (.str (accS (qnL n V P vals i)))), (9, u.1), (10, u.2)]) (fun r => (r.getD 9 .no, r.getD 10 .no)) (fun _ => True) (rfl) (True.intro) ?_ ?_)
  · intro i0 t u0 hx0 hP0
    obtain rfl : i0 = t := by
      obtain ⟨hl, he⟩ := List.getElem?_eq_some_iff.mp hx0
      rw [List.getElem_range] at he; exact he
    have hi0 : i0 < n := by have := (List.getElem?_eq_some_iff.mp hx0).1; rwa [List.length_range] at this
    refine ⟨_, _, (dg_name 9 nd), ?_⟩
    walk_at "env"
    refine ws_cons (ws_set 10 nd ed_str ?_)
    walk_at "env"
    refine ws_cons (ws_if (td_tw (tw_and (td_truth (ed_ix (d := .bl (bAt (rchL n V P vals "1" "1") (i0 : Int))) (ed_var 4 rfl) (ed_var 9 rfl) (.l (bAt_at (rchL_len "1" "1") ⟨by omega, by omega⟩).1)) rfl) (fun hb2 => (tw_and1 (td_not (td_truth (ed_ix (d := .bl (bAt (rchL n V P vals "0x" "1x") (i0 : Int))) (ed_var 7 rfl) (ed_var 9 rfl) (.l (bAt_at (rchL_len "0x" "1x") ⟨by omega, by omega⟩).1)) rfl)))))) (fun hc1 => ?_) (fun hc1 => ?_))
    · skip
      have h1 := hc1
      refine ws_cons (ws_set 10 nd ed_str ?_)
      walk_at "env"
      refine ws_nil ?_
      refine ws_cons (ws_if (td_tw (tw_and (td_truth (ed_ix (d := .bl (bAt (rchL n V P vals "0" "1") (i0 : Int))) (ed_var 5 rfl) (ed_var 9 rfl) (.l (bAt_at (rchL_len "0" "1") ⟨by omega, by omega⟩).1)) rfl) (fun hb4 => (tw_and1 (td_not (td_truth (ed_ix (d := .bl (bAt (rchL n V P vals "1x" "1x") (i0 : Int))) (ed_var 6 rfl) (ed_var 9 rfl) (.l (bAt_at (rchL_len "1x" "1x") ⟨by omega, by omega⟩).1)) rfl)))))) (fun hc3 => ?_) (fun hc3 => ?_))
      · skip
        have h2 := hc3
        refine ws_cons (ws_set 10 nd ed_str ?_)
        walk_at "env"
        refine ws_nil ?_
        refine ws_cons (ws_set 8 nd (ed_bin (ed_var 8 rfl) (ED.eq (ed_dget2 (k0 := kI (i0 : Int)) hu (ed_var 2 rfl) (ed_var 9 rfl) (ed_var 10 rfl) ⟨rfl, rfl, rfl, rfl⟩) (show _ = D.str (qnS n V P vals (i0 : Int)) by first | (rw [qnS, qv_0 h2]; exact fx_get) | (rw [qnS, qv_1 h2 h1]; exact fx_get) | (rw [qnS, qv_x h2 h1]; exact fx_get))) (b2_addS (by have h3 := qnL_room (n := n) (V := V) (vals := vals) hP i0; have h4 := qn_len (n := n) (V := V) (vals := vals) hP (i0 : Int); rw [sizeLine_eq]; omega))) ?_)
        walk_at "env"
        refine ws_nil ?_
        refine ⟨?_, True.intro⟩
        rw [qnL_succ]
        rfl
      · skip
        have h2 := hc3
        refine ws_nil ?_
        refine ws_cons (ws_set 8 nd (ed_bin (ed_var 8 rfl) (ED.eq (ed_dget2 (k0 := kI (i0 : Int)) hu (ed_var 2 rfl) (ed_var 9 rfl) (ed_var 10 rfl) ⟨rfl, rfl, rfl, rfl⟩) (show _ = D.str (qnS n V P vals (i0 : Int)) by first | (rw [qnS, qv_0 h2]; exact fx_get) | (rw [qnS, qv_1 h2 h1]; exact fx_get) | (rw [qnS, qv_x h2 h1]; exact fx_get))) (b2_addS (by have h3 := qnL_room (n := n) (V := V) (vals := vals) hP i0; have h4 := qn_len (n := n) (V := V) (vals := vals) hP (i0 : Int); rw [sizeLine_eq]; omega))) ?_)
        walk_at "env"
        refine ws_nil ?_
        refine ⟨?_, True.intro⟩
        rw [qnL_succ]
        rfl
    · skip
      have h1 := hc1
      refine ws_nil ?_
      refine ws_cons (ws_if (td_tw (tw_and (td_truth (ed_ix (d := .bl (bAt (rchL n V P vals "0" "1") (i0 : Int))) (ed_var 5 rfl) (ed_var 9 rfl) (.l (bAt_at (rchL_len "0" "1") ⟨by omega, by omega⟩).1)) rfl) (fun hb6 => (tw_and1 (td_not (td_truth (ed_ix (d := .bl (bAt (rchL n V P vals "1x" "1x") (i0 : Int))) (ed_var 6 rfl) (ed_var 9 rfl) (.l (bAt_at (rchL_len "1x" "1x") ⟨by omega, by omega⟩).1)) rfl)))))) (fun hc5 => ?_) (fun hc5 => ?_))
      · skip
        have h2 := hc5
        refine ws_cons (ws_set 10 nd ed_str ?_)
        walk_at "env"
        refine ws_nil ?_
        refine ws_cons (ws_set 8 nd (ed_bin (ed_var 8 rfl) (ED.eq (ed_dget2 (k0 := kI (i0 : Int)) hu (ed_var 2 rfl) (ed_var 9 rfl) (ed_var 10 rfl) ⟨rfl, rfl, rfl, rfl⟩) (show _ = D.str (qnS n V P vals (i0 : Int)) by first | (rw [qnS, qv_0 h2]; exact fx_get) | (rw [qnS, qv_1 h2 h1]; exact fx_get) | (rw [qnS, qv_x h2 h1]; exact fx_get))) (b2_addS (by have h3 := qnL_room (n := n) (V := V) (vals := vals) hP i0; have h4 := qn_len (n := n) (V := V) (vals := vals) hP (i0 : Int); rw [sizeLine_eq]; omega))) ?_)
        walk_at "env"
        refine ws_nil ?_
        refine ⟨?_, True.intro⟩
        rw [qnL_succ]
        rfl
      · skip
        have h2 := hc5
        refine ws_nil ?_
        refine ws_cons (ws_set 8 nd (ed_bin (ed_var 8 rfl) (ED.eq (ed_dget2 (k0 := kI (i0 : Int)) hu (ed_var 2 rfl) (ed_var 9 rfl) (ed_var 10 rfl) ⟨rfl, rfl, rfl, rfl⟩) (show _ = D.str (qnS n V P vals (i0 : Int)) by first | (rw [qnS, qv_0 h2]; exact fx_get) | (rw [qnS, qv_1 h2 h1]; exact fx_get) | (rw [qnS, qv_x h2 h1]; exact fx_get))) (b2_addS (by have h3 := qnL_room (n := n) (V := V) (vals := vals) hP i0; have h4 := qn_len (n := n) (V := V) (vals := vals) hP (i0 : Int); rw [sizeLine_eq]; omega))) ?_)
        walk_at "env"
        refine ws_nil ?_
        refine ⟨?_, True.intro⟩
        rw [qnL_succ]
        rfl
  · intro u0 hP0
    walk_at "env"
    rw [List.length_range]
    refine ws_cons (ws_ret (ED.eq (ed_var 8 rfl) ?_) (Or.inl rfl))
    rfl
abbrev s_law_qsettle : Stmt := top 39
theorem sc_law_qsettle : FnScope ["count", "devices", "fixed", "values", "turn", "net"] ["count", "devices", "fixed"] (defScope s_law_qsettle) := ⟨rfl, rfl, rfl, by decide +kernel, rfl, by decide +kernel, by decide +kernel⟩
theorem ok_law_qsettle {f : Addr} {fd : FuncData} (F : Fun K "_law_qsettle" "_law_qsettle" s_law_qsettle f fd) (B : Bt mg) (KC : Kt K mg) (KL : Lt K mg) (XF : Xt K mg) (G_law_qnext : Fn P w K mg base "_law_qnext" 2 R_law_qnext) :
    FnOk P w K mg base CX0 3 f fd ["count", "devices", "fixed"] (spR K R_law_qsettle) := by
  refine fn_ok (k := 2) F sc_law_qsettle (fun ds d h => by cases h; rfl) fun ds d hR cdv A outer s H E hr => ?_
  have nd := sc_law_qsettle.nd
  have hu := hr.units
  rcases hR with ⟨n, V, P, ok, hFO, hn, hl⟩
  walk_at "en"
  refine ws_cons (ws_set 3 nd (ED.eq (ed_join (zs := (List.range n).map (zF P)) ed_str (.lst _) (ed_lst (eo_map2 [("net", 5)] (List.range n) (fun (i : Nat) => D.int (i : Int)) (zF P) (D.str) rfl nd (blkOk_by (N := ["count", "devices", "fixed", "values", "turn", "net"]) (sc := defScope s_law_qsettle) (by decide +kernel)) (id_range1 (by rfl) B.«range» (ed_var 0 rfl) (by walk_at "side")) (by rw [Int.toNat_natCast]; exact rngD0 _) (fun t hxm => ⟨_, by rfl, fun _ _ _ _ _ => ⟨(dg_name 5 nd), tds_nil, (ED.eq (ed_dget2 (k0 := kI (t : Int)) hu (ed_var 2 rfl) (ed_var 5 rfl) ed_str ⟨rfl, rfl, rfl, rfl⟩) (show _ = D.str (zF P t) from fx_get))⟩⟩) (by rw [List.length_range, sizeLine_eq]; omega))) (z0_room hFO (by omega))) (show _ = D.str (itZ n V P 0) from rfl)) ?_)
  walk_at "env"
  refine ws_cons (ws_forU (List.range (n + 1)) (fun (i : Nat) => D.int (i : Int)) rfl (id_range1 (by rfl) B.«range» (ED.eq (ed_bin (ed_var 0 rfl) ed_int (by walk_at "b2")) (show _ = (D.int ((n + 1 : Nat) : Int)) from by rfl)) (by walk_at "side")) (by rw [Int.toNat_natCast]; exact rngD0 _) (U := Sl) (fun i u => [(3, .sh (.str (itZ n V P i))), (4, u)]) (fun r => (r.getD 4 .no)) (fun _ => True) (rfl) (True.intro) ?_ ?_)
  · intro i0 t u0 hx0 hP0
    obtain rfl : i0 = t := by
      obtain ⟨hl, he⟩ := List.getElem?_eq_some_iff.mp hx0
      rw [List.getElem_range] at he; exact he
    have hi0 : i0 < n + 1 := by have := (List.getElem?_eq_some_iff.mp hx0).1; rwa [List.length_range] at this
    refine ⟨_, _, (dg_name 4 nd), ?_⟩
    walk_at "env"
    refine ws_cons (ws_set 3 nd (ED.eq (ed_call G_law_qnext (hr.mono (by decide)) (by rfl) (ad_cons (ed_var 0 rfl) (ad_cons (ed_var 1 rfl) (ad_cons (ed_var 2 rfl) (ad_cons (ed_var 3 rfl) ad_nil)))) (by exact .mk n V P (itZ n V P i0) ok (it_agr ok hFO i0).hv (it_agr ok hFO i0).hs hFO.k hn hl (by have := hFO.l; omega) hFO.one)) (show _ = (D.str (itZ n V P (i0 + 1))) from by rw [it_next ok hFO])) ?_)
    walk_at "env"
    refine ws_nil ?_
    exact ⟨rfl, True.intro⟩
  · intro u0 hP0
    walk_at "env"
    rw [List.length_range]
    refine ws_cons (ws_ret (ED.eq (ed_var 3 rfl) ?_) (Or.inl rfl))
    rfl
abbrev s_law_unknown : Stmt := top 40
theorem sc_law_unknown : FnScope ["circuit", "inputs", "output", "e"] ["circuit", "inputs", "output"] (defScope s_law_unknown) := ⟨rfl, rfl, rfl, by decide +kernel, rfl, by decide +kernel, by decide +kernel⟩
theorem ok_law_unknown {f : Addr} {fd : FuncData} (F : Fun K "_law_unknown" "_law_unknown" s_law_unknown f fd) (B : Bt mg) (KC : Kt K mg) (KL : Lt K mg) (XF : Xt K mg)  (GX_table : FnXG P w K mg base "table" 5 RX_table) :
    FnOk P w K mg base CX0 6 f fd ["circuit", "inputs", "output"] (spR K R_law_unknown) := by
  refine fn_ok (k := 5) F sc_law_unknown (fun ds d h => by cases h; rfl) fun ds d hR cdv A outer s H E hr => ?_
  have nd := sc_law_unknown.nd
  have hu := hr.units
  rcases hR with ⟨n, N, V, I, x0, k9, y, ok, hk9, hy, hb, hIl, hyl⟩
  walk_at "en"
  refine ws_cons (ws_tryFS (ns := ["name"]) (ds := [.str y]) 3 nd XF.«m2» (by rfl) (fun pn xe po => ?_) (fun ea eC ex eo pn ehC ehz ehf => ?_))
  · skip
    exact xg_head (xg_expr (eg_call GX_table (hr.mono (by decide)) (by rfl) (ad_cons (ed_var 0 rfl) (ad_cons (ed_var 1 rfl) (ad_cons (ed_var 2 rfl) ad_nil))) (by exact .mk n N V I x0 k9 y ok hk9 hy hb hIl hyl)))
  · skip
    walk_at "env"
    refine ws_cons (ws_ret (ED.eq (ed_xfld 0 XF.«f1» ehC ehz ehf (ed_var 3 rfl)) ?_) (Or.inl rfl))
    rfl
abbrev s_law_values : Stmt := top 41
theorem sc_law_values : FnScope ["count", "devices", "named", "inputs", "found", "number", "fixed", "name", "k"] ["count", "devices", "named", "inputs"] (defScope s_law_values) := ⟨rfl, rfl, rfl, by decide +kernel, rfl, by decide +kernel, by decide +kernel⟩
theorem ok_law_values {f : Addr} {fd : FuncData} (F : Fun K "_law_values" "_law_values" s_law_values f fd) (B : Bt mg) (KC : Kt K mg) (KL : Lt K mg) (XF : Xt K mg) (G_law_qsettle : Fn P w K mg base "_law_qsettle" 3 R_law_qsettle) :
    FnOk P w K mg base CX0 4 f fd ["count", "devices", "named", "inputs"] (spR K R_law_values) := by
  refine fn_ok (k := 3) F sc_law_values (fun ds d h => by cases h; rfl) fun ds d hR cdv A outer s H E hr => ?_
  have nd := sc_law_values.nd
  have hu := hr.units
  rcases hR with ⟨n, N, V, I, ok, hI, hn, hl⟩
  have hIl := hI.l
  have h2I : 2 ^ I.length ≤ 8 := Nat.pow_le_pow_right (n := 2) (by decide) hIl
  walk_at "en"
  refine ws_cons (ws_setO 4 nd (eo_lst ad_nil) ?_)
  walk_at "env"
  refine ws_cons (ws_forU (List.range (2 ^ I.length)) (fun (i : Nat) => D.int (i : Int)) rfl (id_range1 (by rfl) B.«range» (ed_ix (ed_lst (eo_lst (ad_cons ed_int (ad_cons ed_int (ad_cons ed_int (ad_cons ed_int ad_nil)))))) (ED.eq (ed_callB (id := "len") (by rfl) B.«len» bb_len (ad_cons (ed_var 3 rfl) ad_nil) (by walk_at "bc")) (show _ = (D.int (I.length : Int)) from by rw [List.length_map])) (.l (at_pw (by omega)))) (rng_side h2I)) (by rw [Int.toNat_natCast]; exact rngD0 _) (U := Sl × Sl × Sl × Sl) (fun i u => [(4, .ow (.lst ((List.range i).map fun t => D.str (duL n N V I t)))), (5, u.1), (6, u.2.1), (7, u.2.2.1), (8, u.2.2.2)]) (fun r => (r.getD 5 .no, r.getD 6 .no, r.getD 7 .no, r.getD 8 .no)) (fun _ => True) (rfl) (True.intro) ?_ ?_)
  · intro i0 t u0 hx0 hP0
    obtain rfl : i0 = t := by
      obtain ⟨hl, he⟩ := List.getElem?_eq_some_iff.mp hx0
      rw [List.getElem_range] at he; exact he
    have hi0 : i0 < 2 ^ I.length := by have := (List.getElem?_eq_some_iff.mp hx0).1; rwa [List.length_range] at this
    refine ⟨_, _, (dg_name 5 nd), ?_⟩
    walk_at "env"
    refine ws_cons (ws_setO 6 nd eo_dk ?_)
    walk_at "env"
    refine ws_cons (ws_forU (splL) (fun s : Str × Str => D.str s.1) rfl (id_list (ed_lst (eo_lst (ad_cons ed_str (ad_cons ed_str ad_nil))))) (by rfl) (U := Sl) (fun i u => [(6, .ow (.dk (fxK (splI N i)) ((splI N i).map fun p => D.str p.2))), (7, u)]) (fun r => (r.getD 7 .no)) (fun _ => True) (rfl) (True.intro) ?_ ?_)
    · intro i1 s u1 hx1 hP1
      have hsm := List.mem_of_getElem? hx1
      refine ⟨_, _, (dg_name 7 nd), ?_⟩
      walk_at "env"
      refine ws_cons (ws_if (td_cmp (ed_var 7 rfl) (ed_var 2 rfl) (c2_inDk hu (k0 := Sum.inr s.1) rfl) (by rfl)) (fun hc1 => ?_) (fun hc1 => ?_))
      · skip
        have hs9 : hsN N s.1 = true := by rw [← nd_has]; exact hc1
        refine ws_cons (ws_dputO 6 (k0 := kI (ntF N s.1)) hu rfl (ed_dix hu (ed_var 2 rfl) (ed_var 7 rfl) (k0 := Sum.inr s.1) (nd_get (List.Perm.refl _) ok.d2 hs9)) (ED.eq (d' := .str s.2) (ed_ix (ed_lst (eo_lst (ad_cons ed_str (ad_cons ed_str ad_nil)))) (ed_callT (T := "int") (by rfl) B.«int» bb_int (ad_cons (ed_cmp (ed_var 7 rfl) ed_str (by walk_at "c2")) ad_nil) (bc_intB)) (.l at_two)) (spl_two hsm)) (splI_new ok.d1 ok.d2 hx1 hs9) (by have h1 := (splI_sub N i1).length_le; have h2 := spl_len N; unfold fxK; rw [List.length_map, sizeLine_eq]; omega) ?_)
        walk_at "env"
        refine ws_nil ?_
        refine ws_nil ?_
        first | exact ⟨by rw [splI_yes hx1 hs9]; simp only [fxK, List.map_append]; rfl, True.intro⟩ | exact ⟨by rw [splI_no hx1 hs9]; rfl, True.intro⟩
      · skip
        have hs9 : hsN N s.1 = false := by rw [← nd_has]; exact hc1
        refine ws_nil ?_
        refine ws_nil ?_
        first | exact ⟨by rw [splI_yes hx1 hs9]; simp only [fxK, List.map_append]; rfl, True.intro⟩ | exact ⟨by rw [splI_no hx1 hs9]; rfl, True.intro⟩
    · intro u1 hP1
      walk_at "env"
      rw [splI_all]
      refine ws_cons (ws_forU (List.range (I.length)) (fun (i : Nat) => D.int (i : Int)) rfl (id_range1 (by rfl) B.«range» (ED.eq (ed_callB (id := "len") (by rfl) B.«len» bb_len (ad_cons (ed_var 3 rfl) ad_nil) (by walk_at "bc")) (show _ = (D.int (I.length : Int)) from by rw [List.length_map])) (by walk_at "side")) (by rw [Int.toNat_natCast]; exact rngD0 _) (U := Sl) (fun i u => [(6, .ow (.dk (fxK (splF N ++ tbB N I i0 i)) ((splF N ++ tbB N I i0 i).map fun p => D.str p.2))), (8, u)]) (fun r => (r.getD 8 .no)) (fun _ => True) (by rw [show tbB N I i0 0 = [] from rfl, List.append_nil]; rfl) (True.intro) ?_ ?_)
      · intro i2 t u2 hx2 hP2
        obtain rfl : i2 = t := by
          obtain ⟨hl, he⟩ := List.getElem?_eq_some_iff.mp hx2
          rw [List.getElem_range] at he; exact he
        have hi2 : i2 < I.length := by have := (List.getElem?_eq_some_iff.mp hx2).1; rwa [List.length_range] at this
        refine ⟨_, _, (dg_name 8 nd), ?_⟩
        walk_at "env"
        refine ws_cons (ws_dputO 6 (k0 := kI (ntF N (I.getD i2 ""))) hu rfl (ed_dix hu (ed_var 2 rfl) (ed_ix (d := .str (I.getD i2 "")) (ed_var 3 rfl) (ed_var 8 rfl) (.l (atI_nat (by rw [List.getElem?_map, List.getD_eq_getElem?_getD, List.getElem?_eq_getElem hi2]; rfl)))) (k0 := Sum.inr (I.getD i2 "")) (nd_get (List.Perm.refl _) ok.d2 (hI.h _ (by rw [List.getD_eq_getElem?_getD, List.getElem?_eq_getElem hi2]; exact List.getElem_mem hi2)))) (ed_ix (ed_lst (eo_lst (ad_cons ed_str (ad_cons ed_str ad_nil)))) (ed_bin (ed_bin (ed_var 5 rfl) (ed_ix (ed_lst (eo_lst (ad_cons ed_int (ad_cons ed_int (ad_cons ed_int ad_nil))))) (ED.eq (ed_bin (ed_bin (ED.eq (ed_callB (id := "len") (by rfl) B.«len» bb_len (ad_cons (ed_var 3 rfl) ad_nil) (by walk_at "bc")) (show _ = (D.int (I.length : Int)) from by rw [List.length_map])) ed_int (by walk_at "b2")) (ed_var 8 rfl) (by walk_at "b2")) (show _ = (D.int ((I.length - 1 - i2 : Nat) : Int)) from by congr 1; omega)) (.l (at_pw3 (by omega)))) (b2_fdiv (fd_pw i0 (by omega)))) ed_int (by walk_at "b2")) (.l (at_bit i0 I.length i2))) (tbB_new ok.d1 ok.d2 hI hi2) (by have h2 := spl_len N; unfold fxK tbB; rw [List.length_map, List.length_append, List.length_map, List.length_range, sizeLine_eq]; omega) ?_)
        walk_at "env"
        refine ws_nil ?_
        refine ⟨?_, True.intro⟩
        rw [tbB_succ, ← List.append_assoc]
        simp only [fxK, List.map_append]
        rfl
      · intro u2 hP2
        walk_at "env"
        rw [List.length_range]
        refine ws_share 6 rfl ?_
        walk_at "env"
        refine ws_cons (ws_append 4 rfl (ed_call G_law_qsettle (hr.mono (by decide)) (by rfl) (ad_cons (ed_var 0 rfl) (ad_cons (ed_var 1 rfl) (ad_cons (ed_var 6 rfl) ad_nil))) (by exact .mk n V (splF N ++ tbB N I i0 I.length) ok.dv (law_fok ok hI _ (Nat.le_refl _)) (by omega) (by omega))) (by rw [List.length_map, List.length_range, sizeLine_eq]; omega) ?_ (fun h => ps_expr (pe_bm PySem.F.plainAttrs_list PySem.F.slot_list_append PySem.F.type_list_append mt_append (pv 4) h)))
        walk_at "env"
        refine ws_nil ?_
        refine ⟨?_, True.intro⟩
        rw [List.range_succ, List.map_append]
        rfl
  · intro u0 hP0
    walk_at "env"
    rw [List.length_range]
    refine ws_share 4 rfl ?_
    walk_at "env"
    refine ws_cons (ws_ret (ED.eq (ed_var 4 rfl) ?_) (Or.inl rfl))
    rfl
abbrev s_law : Stmt := top 42
theorem sc_law : FnScope ["script", "count", "names", "devices", "draws", "words", "turn", "extra", "named", "net", "name", "circuit", "inputs", "due", "output", "at", "handed", "values"] ["script"] (defScope s_law) := ⟨rfl, rfl, rfl, by decide +kernel, rfl, by decide +kernel, by decide +kernel⟩
theorem ok_law {f : Addr} {fd : FuncData} (F : Fun K "law" "law" s_law f fd) (B : Bt mg) (KC : Kt K mg) (KL : Lt K mg) (XF : Xt K mg) (G_Circuit_init : FnI P w K mg base "Circuit" 3 R_Circuit_init) (G_law_cell : Fn P w K mg base "_law_cell" 1 R_law_cell) (G_law_draws : Fn P w K mg base "_law_draws" 1 R_law_draws) (G_law_is_texts : Fn P w K mg base "_law_is_texts" 2 R_law_is_texts) (G_law_qcircuit : Fn P w K mg base "_law_qcircuit" 2 R_law_qcircuit) (G_law_unknown : Fn P w K mg base "_law_unknown" 6 R_law_unknown) (G_law_values : Fn P w K mg base "_law_values" 4 R_law_values) (G_table : Fn P w K mg base "table" 5 R_table) :
    FnOk P w K mg base CX0 7 f fd ["script"] (spR K R_law) := by
  refine fn_ok (k := 6) F sc_law (fun ds d h => by cases h; rfl) fun ds d hR cdv A outer s H E hr => ?_
  have nd := sc_law.nd
  have hu := hr.units
  rcases hR with ⟨ns, hlen⟩
  obtain ⟨n1, hn1⟩ : ∃ n1, n1 = qCnt (cellAt ns 0) 7 10 := ⟨_, rfl⟩
  obtain ⟨N1, hN1⟩ : ∃ N, N = cN (cellAt ns 0) 7 10 := ⟨_, rfl⟩
  obtain ⟨V1, hV1⟩ : ∃ V, V = cV (cellAt ns 0) 7 10 := ⟨_, rfl⟩
  have ok0 : CirOk n1 N1 V1 := by rw [hn1, hN1, hV1]; exact qcir_ok (by decide) (by decide)
  have hlo : 0 ≤ n1 ∧ n1 ≤ 7 := by rw [hn1]; exact qCnt_lo (by decide)
  obtain ⟨n, hn⟩ : ∃ n : Nat, n1 + 2 = (n : Int) := ⟨(n1 + 2).toNat, by omega⟩
  have hvl : V1.length ≤ 10 := by have := cV_len (c := cellAt ns 0) (nets := 7) (most := 10) (by decide); rw [← hV1] at this; omega
  have ok1 : CirOk (n : Int) N1 V1 := by rw [← hn, show n1 + 2 = n1 + 1 + 1 by omega]; exact (ok0.up (by omega)).up (by omega)
  have hT := tnN_ok (c := (cellAt ns 1)) (n := n) (by omega) (by omega)
  have okC : CirOk (n : Int) (tnN (cellAt ns 1) n) (V1 ++ [exD (cellAt ns 1) n]) := hT.cir (N1 := N1) ⟨ok1.nn, ok1.nm, ok1.d1, ok1.d2, ok1.nl, by rw [List.length_append]; show V1.length + 1 ≤ 200; omega, fun v hv => by rcases List.mem_append.mp hv with z | z; exact ok1.dv v z; rw [List.mem_singleton] at z; rw [z]; exact exD_ok (by omega)⟩
  have hI := inpI_ok (c := (cellAt ns 1)) hT
  have hVl : (V1 ++ [exD (cellAt ns 1) n]).length ≤ 60 := by rw [List.length_append]; show V1.length + 1 ≤ 60; omega
  have hNl := hT.l
  have hIl := hI.l
  walk_at "en"
  refine ws_cons (ws_unpack (ED.eq (ed_call G_law_qcircuit (hr.mono (by decide)) (by rfl) (ad_cons (ed_call G_law_cell (hr.mono (by decide)) (by rfl) (ad_cons (ed_var 0 rfl) (ad_cons ed_int ad_nil)) (by exact .mk _ _ (by omega))) (ad_cons ed_int (ad_cons ed_int ad_nil))) (by exact .mk _ _ _ (by decide) (by decide))) (show _ = (D.tup [.int n1, .lst (N1.map nmE), .lst (V1.map Dev.e)]) from by rw [hn1, hN1, hV1])) (dg_tup rfl (dgs_cons (dg_name 1 nd) (dgs_cons (dg_name 2 nd) (dgs_cons (dg_name 3 nd) dgs_nil)))) ?_)
  walk_at "env"
  refine ws_cons (ws_set 4 nd (ed_call G_law_draws (hr.mono (by decide)) (by rfl) (ad_cons (ed_call G_law_cell (hr.mono (by decide)) (by rfl) (ad_cons (ed_var 0 rfl) (ad_cons ed_int ad_nil)) (by exact .mk _ _ (by omega))) (ad_cons ed_int ad_nil)) (by exact .mk _ _ (by omega) (by omega))) ?_)
  walk_at "env"
  refine ws_cons (ws_set 1 nd (ED.eq (ed_bin (ed_var 1 rfl) ed_int (by walk_at "b2")) (show _ = (D.int (n : Int)) from by rw [hn])) ?_)
  walk_at "env"
  refine ws_cons (ws_setO 5 nd (EO.eq (c' := .lst (wrdB.map .str)) (eo_lst (ad_cons ed_str (ad_cons ed_str (ad_cons ed_str (ad_cons ed_str (ad_cons ed_str (ad_cons ed_str (ad_cons ed_str (ad_cons ed_str (ad_cons ed_str ad_nil)))))))))) rfl) ?_)
  refine ws_share 5 rfl ?_
  walk_at "env"
  refine ws_cons (ws_set 6 nd (ED.eq (ed_bin (ed_ix (ed_var 4 rfl) ed_int (by walk_at "ix")) ed_int (by walk_at "b2")) (show _ = (.int (wrdT (cellAt ns 1) : Int)) from by rw [wrdT_eq])) ?_)
  walk_at "env"
  refine ws_cons (ws_set 5 nd (ED.eq (d' := .lst ((wrdL (cellAt ns 1)).map .str)) (ed_lst (eo_cat (ed_lst (eo_slice (ed_var 5 rfl) (some_part (ed_var 6 rfl)) no_part)) (ed_lst (eo_slice (ed_var 5 rfl) no_part (some_part (ed_var 6 rfl)))) (by simp only [cutDrop _ (show (0 : Int) ≤ (wrdT (cellAt ns 1) : Int) by omega), cut_tk8 _ (show (0 : Int) ≤ (wrdT (cellAt ns 1) : Int) by omega), List.length_drop, List.length_take, List.length_map]; rw [sizeLine_eq]; unfold wrdB; simp only [List.length_cons, List.length_nil]; omega))) (by rw [cutDrop _ (by omega), cut_tk8 _ (by omega), Int.toNat_natCast, ← List.map_drop, ← List.map_take, ← List.map_append]; rfl)) ?_)
  walk_at "env"
  refine ws_cons (ws_setFilter2 2 [("net", 9)] (List.range n) (fun (i : Nat) => D.int (i : Int)) (tnP (cellAt ns 1)) (tnG (cellAt ns 1)) (nmE) rfl nd (blkOk_by (N := ["script", "count", "names", "devices", "draws", "words", "turn", "extra", "named", "net", "name", "circuit", "inputs", "due", "output", "at", "handed", "values"]) (sc := defScope s_law) (by decide +kernel)) (id_range1 (by rfl) B.«range» (ed_var 1 rfl) (by walk_at "side")) (by rw [Int.toNat_natCast]; exact rngD0 _) (fun t hxm => turn_if (fun hp1 => ⟨_, by rfl, fun _ _ _ _ _ => ⟨(dg_name 9 nd), tds_one (TD.eq (td_cmp (ed_bin (ed_ix (ed_var 4 rfl) (ed_bin ed_int (ed_var 9 rfl) (by walk_at "b2")) (.l (at_draws (by omega) (by have h7 := List.mem_range.mp hxm; omega)))) ed_int (by walk_at "b2")) ed_int (by walk_at "c2")) hp1), (ed_tup (ad_cons (ed_var 9 rfl) (ad_cons (ed_ix (d := .str ((wrdL (cellAt ns 1)).getD t "")) (ed_var 5 rfl) (ed_var 9 rfl) (.l (atI_nat (by have h8 := wrdL_len (cellAt ns 1); have h7 := List.mem_range.mp hxm; rw [List.getElem?_map, List.getD_eq_getElem?_getD, List.getElem?_eq_getElem (by omega)]; rfl)))) ad_nil)))⟩⟩) (fun hp1 => ⟨_, by rfl, fun _ _ _ _ _ => ⟨(dg_name 9 nd), tds_one (TD.eq (td_cmp (ed_bin (ed_ix (ed_var 4 rfl) (ed_bin ed_int (ed_var 9 rfl) (by walk_at "b2")) (.l (at_draws (by omega) (by have h7 := List.mem_range.mp hxm; omega)))) ed_int (by walk_at "b2")) ed_int (by walk_at "c2")) hp1)⟩⟩)) (by rw [List.length_range, sizeLine_eq]; omega) ?_)
  refine ws_share 2 rfl ?_
  walk_at "env"
  refine ws_join (γ := Unit) (U := Unit) (fun g u => [(2, .sh (.lst ((tnN (cellAt ns 1) n).map nmE)))]) (fun r => ()) (fun _ => True) (ws_if (td_cmp (ed_callB (id := "len") (by rfl) B.«len» bb_len (ad_cons (ed_var 2 rfl) ad_nil) (by walk_at "bc")) ed_int (by walk_at "c2")) (fun hc2 => ?_) (fun hc2 => ?_)) ?_
  · skip
    have hem := tn_emp hc2
    refine ws_cons (ws_setO 2 nd (EO.eq (c' := .lst (([((0 : Int), ("a" : Str))]).map nmE)) (eo_lst (ad_cons (ed_tup (ad_cons ed_int (ad_cons ed_str ad_nil))) ad_nil)) rfl) ?_)
    refine ws_share 2 rfl ?_
    walk_at "env"
    refine ws_nil ?_
    exact ⟨(), True.intro, by unfold tnN; rw [if_pos hem]⟩
  · skip
    have hem := tn_nem hc2
    refine ws_nil ?_
    exact ⟨(), True.intro, by unfold tnN; rw [if_neg hem]; rfl⟩
  · intro ga ua ha
    walk_at "env"
    refine ws_cons (ws_setO 7 nd (EO.eq (c' := .lst ([exD (cellAt ns 1) n].map Dev.e)) (eo_lst (ad_cons (ed_tup (ad_cons ed_str (ad_cons (ed_bin (ed_ix (ed_var 4 rfl) ed_int (by walk_at "ix")) (ed_var 1 rfl) (by walk_at "b2")) (ad_cons (ed_callB (id := "min") (by rfl) B.«min» bb_min (ad_cons (ed_bin (ed_ix (ed_var 4 rfl) ed_int (by walk_at "ix")) (ed_var 1 rfl) (by walk_at "b2")) (ad_cons (ed_bin (ed_ix (ed_var 4 rfl) ed_int (by walk_at "ix")) (ed_var 1 rfl) (by walk_at "b2")) ad_nil)) (bc_min2 rfl)) (ad_cons (ed_callB (id := "max") (by rfl) B.«max» bb_max (ad_cons (ed_bin (ed_ix (ed_var 4 rfl) ed_int (by walk_at "ix")) (ed_var 1 rfl) (by walk_at "b2")) (ad_cons (ed_bin (ed_ix (ed_var 4 rfl) ed_int (by walk_at "ix")) (ed_var 1 rfl) (by walk_at "b2")) ad_nil)) (bc_max2 rfl)) (ad_cons ed_int (ad_cons ed_int ad_nil))))))) ad_nil)) rfl) ?_)
    refine ws_share 7 rfl ?_
    walk_at "env"
    refine ws_cons (ws_set 3 nd (ED.eq (d' := .lst ((V1 ++ [exD (cellAt ns 1) n]).map Dev.e)) (ed_lst (eo_cat (ed_var 3 rfl) (ed_var 7 rfl) (by rw [List.length_map, List.length_map, sizeLine_eq]; show V1.length + 1 ≤ _; omega))) (by rw [List.map_append])) ?_)
    walk_at "env"
    refine ws_cons (ws_setO 8 nd eo_dk ?_)
    walk_at "env"
    refine ws_cons (ws_forU ((tnN (cellAt ns 1) n)) (nmE) rfl (id_list (ed_var 2 rfl)) (by rfl) (U := Sl × Sl) (fun i u => [(8, .ow (.dk (ndK ((tnN (cellAt ns 1) n).take i)) (((tnN (cellAt ns 1) n).take i).map fun q => D.int q.1))), (9, u.1), (10, u.2)]) (fun r => (r.getD 9 .no, r.getD 10 .no)) (fun _ => True) (rfl) (True.intro) ?_ ?_)
    · intro i0 q u0 hx0 hP0
      refine ⟨_, _, (dg_tup rfl (dgs_cons (dg_name 9 nd) (dgs_cons (dg_name 10 nd) dgs_nil))), ?_⟩
      walk_at "env"
      refine ws_cons (ws_dputO 8 (k0 := Sum.inr q.2) hu rfl (ed_var 10 rfl) (ed_var 9 rfl) (nk_new hT.d2 hx0) (by rw [List.length_map, List.length_take, sizeLine_eq]; omega) ?_)
      walk_at "env"
      refine ws_nil ?_
      refine ⟨?_, True.intro⟩
      rw [List.take_add_one, hx0]
      simp only [Option.toList, List.map_append, List.map_cons, List.map_nil]
      rfl
    · intro u0 hP0
      walk_at "env"
      rw [List.take_length]
      refine ws_share 8 rfl ?_
      walk_at "env"
      refine ws_cons (ws_setO 11 nd (eo_make G_Circuit_init (hr.mono (by decide)) (by rfl) (ad_cons (ed_var 1 rfl) (ad_cons (ed_lst (eo_callT (T := "list") (by rfl) B.«list» bb_list (ad_cons (ed_var 2 rfl) ad_nil) (by walk_at "bo"))) (ad_cons (ed_lst (eo_callT (T := "list") (by rfl) B.«list» bb_list (ad_cons (ed_var 3 rfl) ad_nil) (by walk_at "bo"))) ad_nil))) (by exact .mk _ (tnN (cellAt ns 1) n) (V1 ++ [exD (cellAt ns 1) n]) _ _ (.lst _) (.lst _) okC)) ?_)
      refine ws_share 11 rfl ?_
      walk_at "env"
      skip
      refine ws_cons (ws_setFilter2 12 [("net", 9), ("name", 10)] ((tnN (cellAt ns 1) n)) (nmE) (inpP) (fun q : Nm => q.2) (D.str) rfl nd (blkOk_by (N := ["script", "count", "names", "devices", "draws", "words", "turn", "extra", "named", "net", "name", "circuit", "inputs", "due", "output", "at", "handed", "values"]) (sc := defScope s_law) (by decide +kernel)) (id_list (ed_var 2 rfl)) (rfl) (fun q hxm => turn_if (fun hp3 => ⟨_, by rfl, fun _ _ _ _ _ => ⟨(dg_tup rfl (dgs_cons (dg_name 9 nd) (dgs_cons (dg_name 10 nd) dgs_nil))), tds_one (TD.eq (td_cmp (ed_var 10 rfl) (ED.eq (d' := .lst (([("vdd" : Str), "gnd"]).map .str)) (ed_lst (eo_lst (ad_cons ed_str (ad_cons ed_str ad_nil)))) rfl) (c2_notInStr (.lst _)) (by rfl)) hp3), (ed_var 10 rfl)⟩⟩) (fun hp3 => ⟨_, by rfl, fun _ _ _ _ _ => ⟨(dg_tup rfl (dgs_cons (dg_name 9 nd) (dgs_cons (dg_name 10 nd) dgs_nil))), tds_one (TD.eq (td_cmp (ed_var 10 rfl) (ED.eq (d' := .lst (([("vdd" : Str), "gnd"]).map .str)) (ed_lst (eo_lst (ad_cons ed_str (ad_cons ed_str ad_nil)))) rfl) (c2_notInStr (.lst _)) (by rfl)) hp3)⟩⟩)) (by rw [sizeLine_eq]; omega) ?_)
      refine ws_share 12 rfl ?_
      walk_at "env"
      refine ws_cons (ws_set 6 nd (ED.eq (ed_bin (ed_ix (ed_var 4 rfl) ed_int (by walk_at "ix")) (ed_bin (ed_callB (id := "len") (by rfl) B.«len» bb_len (ad_cons (ed_var 12 rfl) ad_nil) (by walk_at "bc")) ed_int (by walk_at "b2")) (by walk_at "b2")) (show _ = (.int (inpT (cellAt ns 1) (tnN (cellAt ns 1) n) : Int)) from by rw [← inpT_eq, List.length_map]; rfl)) ?_)
      walk_at "env"
      refine ws_cons (ws_setO 12 nd (EO.eq (c' := .lst ((inpI (cellAt ns 1) (tnN (cellAt ns 1) n)).map .str)) (eo_slice (ed_lst (eo_cat (ed_lst (eo_slice (ed_var 12 rfl) (some_part (ed_var 6 rfl)) no_part)) (ed_lst (eo_slice (ed_var 12 rfl) no_part (some_part (ed_var 6 rfl)))) (by simp only [cutDrop _ (show (0 : Int) ≤ (inpT (cellAt ns 1) (tnN (cellAt ns 1) n) : Int) by omega), cut_tk8 _ (show (0 : Int) ≤ (inpT (cellAt ns 1) (tnN (cellAt ns 1) n) : Int) by omega), List.length_drop, List.length_take, List.length_map]; have h8 : (List.filter inpP (tnN (cellAt ns 1) n)).length ≤ (tnN (cellAt ns 1) n).length := List.length_filter_le _ _; rw [sizeLine_eq]; omega))) no_part (some_part (ed_bin (ed_ix (ed_var 4 rfl) ed_int (by walk_at "ix")) ed_int (by walk_at "b2")))) (by rw [cutDrop _ (by omega), cut_tk8 _ (Int.emod_nonneg _ (by decide)), cut_tk8 _ (by omega), Int.toNat_natCast, ← List.map_drop, ← List.map_take, ← List.map_append, ← List.map_take]; rfl)) ?_)
      refine ws_share 12 rfl ?_
      walk_at "env"
      refine ws_cons (ws_set 13 nd (ed_call G_law_values (hr.mono (by decide)) (by rfl) (ad_cons (ed_var 1 rfl) (ad_cons (ed_var 3 rfl) (ad_cons (ed_var 8 rfl) (ad_cons (ed_var 12 rfl) ad_nil)))) (by exact .mk n (tnN (cellAt ns 1) n) (V1 ++ [exD (cellAt ns 1) n]) (inpI (cellAt ns 1) (tnN (cellAt ns 1) n)) okC hI (by omega) hVl)) ?_)
      walk_at "env"
      refine ws_cons (ws_forU ((((tnN (cellAt ns 1) n).drop (dr (cellAt ns 1) 20 17 % 3).toNat).take 4)) (nmE) rfl (id_list (ED.eq (d' := .lst ((((tnN (cellAt ns 1) n).drop (dr (cellAt ns 1) 20 17 % 3).toNat).take 4).map nmE)) (ed_lst (eo_slice (ed_lst (eo_slice (ed_var 2 rfl) (some_part (ed_bin (ed_ix (ed_var 4 rfl) ed_int (by walk_at "ix")) ed_int (by walk_at "b2"))) no_part)) no_part (some_part ed_int))) (by rw [cutDrop _ (Int.emod_nonneg _ (by decide)), cut_tk8 _ (by decide), List.map_take, List.map_drop]; rfl))) (by rfl) (U := Sl × Sl × Sl) (fun i u => [(9, u.1), (14, u.2.1), (16, u.2.2)]) (fun r => (r.getD 9 .no, r.getD 14 .no, r.getD 16 .no)) (fun _ => True) (rfl) (True.intro) ?_ ?_)
      · intro i1 q u1 hx1 hP1
        have hqN : q ∈ (tnN (cellAt ns 1) n) := List.mem_of_mem_drop (List.mem_of_mem_take (List.mem_of_getElem? hx1))
        have hqr := (hT.r q hqN).1
        refine ⟨_, _, (dg_tup rfl (dgs_cons (dg_name 9 nd) (dgs_cons (dg_name 14 nd) dgs_nil))), ?_⟩
        walk_at "env"
        refine ws_cons (ws_setO 16 nd (eo_callT (T := "list") (by rfl) B.«list» bb_list (ad_cons (ed_var 12 rfl) ad_nil) (by walk_at "bo")) ?_)
        refine ws_share 16 rfl ?_
        walk_at "env"
        refine ws_cons (ws_if (td_tw (tw_or (td_not (td_truth (ed_call G_law_is_texts (hr.mono (by decide)) (by rfl) (ad_cons (ED.eq (ed_call G_table (hr.mono (by decide)) (by rfl) (ad_cons (ed_var 11 rfl) (ad_cons (ed_var 16 rfl) (ad_cons (ed_var 14 rfl) ad_nil))) (by exact .mk n (tnN (cellAt ns 1) n) (V1 ++ [exD (cellAt ns 1) n]) (inpI (cellAt ns 1) (tnN (cellAt ns 1) n)) q.2 okC hI (hsN_iff.mpr ⟨q, hqN, rfl⟩) (by omega) hVl)) (show _ = (.lst (((List.range (2 ^ (inpI (cellAt ns 1) (tnN (cellAt ns 1) n)).length)).map fun t => vlS (duL n (tnN (cellAt ns 1) n) (V1 ++ [exD (cellAt ns 1) n]) (inpI (cellAt ns 1) (tnN (cellAt ns 1) n)) t) q.1).map .str)) from by exact congrArg D.lst (duL_eq (x := q.2) hIl (ntF_of hT.d2 hqN)))) (ad_cons (ed_lst (eo_map2 [("values", 17)] (List.range (2 ^ (inpI (cellAt ns 1) (tnN (cellAt ns 1) n)).length)) (fun t => D.str (duL n (tnN (cellAt ns 1) n) (V1 ++ [exD (cellAt ns 1) n]) (inpI (cellAt ns 1) (tnN (cellAt ns 1) n)) t)) (fun t => vlS (duL n (tnN (cellAt ns 1) n) (V1 ++ [exD (cellAt ns 1) n]) (inpI (cellAt ns 1) (tnN (cellAt ns 1) n)) t) q.1) (D.str) rfl nd (blkOk_by (N := ["script", "count", "names", "devices", "draws", "words", "turn", "extra", "named", "net", "name", "circuit", "inputs", "due", "output", "at", "handed", "values"]) (sc := defScope s_law) (by decide +kernel)) (id_list (ed_var 13 rfl)) (rfl) (fun t hxm => ⟨_, by rfl, fun _ _ _ _ _ => ⟨(dg_name 17 nd), tds_nil, (ED.eq (d' := .str (vlS (duL n (tnN (cellAt ns 1) n) (V1 ++ [exD (cellAt ns 1) n]) (inpI (cellAt ns 1) (tnN (cellAt ns 1) n)) t) q.1)) (ed_ixS (c := (duL n (tnN (cellAt ns 1) n) (V1 ++ [exD (cellAt ns 1) n]) (inpI (cellAt ns 1) (tnN (cellAt ns 1) n)) t).cps.toList.getD q.1.toNat 0) (ed_var 17 rfl) (ed_var 9 rfl) (by show (duL n (tnN (cellAt ns 1) n) (V1 ++ [exD (cellAt ns 1) n]) (inpI (cellAt ns 1) (tnN (cellAt ns 1) n)) t).cps.toList.length ≤ _; unfold duL; rw [it_len (fo_fxs (law_fok okC hI _ (Nat.le_refl _))), sizeLine_eq]; omega) (vl_at hqr.1 hqr.2 (by unfold duL; rw [it_len (fo_fxs (law_fok okC hI _ (Nat.le_refl _)))]))) rfl)⟩⟩) (by rw [List.length_range, sizeLine_eq]; have h8 : 2 ^ (inpI (cellAt ns 1) (tnN (cellAt ns 1) n)).length ≤ 8 := Nat.pow_le_pow_right (n := 2) (by decide) hIl; omega))) (ad_cons ed_str ad_nil))) (by exact .mk _ (by rw [List.length_map, List.length_range]; have h8 : 2 ^ (inpI (cellAt ns 1) (tnN (cellAt ns 1) n)).length ≤ 8 := Nat.pow_le_pow_right (n := 2) (by decide) hIl; omega))) rfl)) (fun hb6 => (tw_or1 (td_cmp (ed_var 16 rfl) (ed_var 12 rfl) (c2_neSame hu (n := 2) (.lst (fun d hd => (cm_words hT d hd).mono (by decide)))) (by rfl)))))) (fun hc4 => ?_) (fun hc4 => ?_))
        · skip
          exfalso; simp at hc4
        · skip
          clear hc4
          refine ws_nil ?_
          refine ws_nil ?_
          exact ⟨rfl, True.intro⟩
      · intro u1 hP1
        walk_at "env"
        have hA8 : (dr (cellAt ns 1) 20 16 % (((inpI (cellAt ns 1) (tnN (cellAt ns 1) n)).length : Int) + 1)).toNat ≤ (inpI (cellAt ns 1) (tnN (cellAt ns 1) n)).length := by
          have h8 := Int.emod_lt_of_pos (dr (cellAt ns 1) 20 16) (b := ((inpI (cellAt ns 1) (tnN (cellAt ns 1) n)).length : Int) + 1) (by omega)
          omega
        refine ws_cons (ws_set 15 nd (ED.eq (ed_bin (ed_ix (ed_var 4 rfl) ed_int (by walk_at "ix")) (ed_bin (ed_callB (id := "len") (by rfl) B.«len» bb_len (ad_cons (ed_var 12 rfl) ad_nil) (by walk_at "bc")) ed_int (by walk_at "b2")) (by walk_at "b2")) (show _ = (.int ((dr (cellAt ns 1) 20 16 % (((inpI (cellAt ns 1) (tnN (cellAt ns 1) n)).length : Int) + 1)).toNat : Int)) from by rw [List.length_map]; have h8 := Int.emod_nonneg (dr (cellAt ns 1) 20 16) (b := ((inpI (cellAt ns 1) (tnN (cellAt ns 1) n)).length : Int) + 1) (by omega); rw [Int.toNat_of_nonneg h8])) ?_)
        walk_at "env"
        refine ws_cons (ws_if (td_tw (tw_or (td_cmp (ed_call G_law_unknown (hr.mono (by decide)) (by rfl) (ad_cons (ed_var 11 rfl) (ad_cons (ed_var 12 rfl) (ad_cons ed_str ad_nil))) (by first | exact .mk n (tnN (cellAt ns 1) n) (V1 ++ [exD (cellAt ns 1) n]) (inpI (cellAt ns 1) (tnN (cellAt ns 1) n)) "nobody" (inpI (cellAt ns 1) (tnN (cellAt ns 1) n)).length "nobody" okC (by rw [List.getElem?_append_right (Nat.le_refl _), Nat.sub_self]; rfl) (no_name hT (.inr (.inr rfl))) (un_in hI.h) (by omega) (by decide +kernel) | exact .mk n (tnN (cellAt ns 1) n) (V1 ++ [exD (cellAt ns 1) n]) ((inpI (cellAt ns 1) (tnN (cellAt ns 1) n)).take (dr (cellAt ns 1) 20 16 % (((inpI (cellAt ns 1) (tnN (cellAt ns 1) n)).length : Int) + 1)).toNat ++ [("none1" : Str)] ++ (inpI (cellAt ns 1) (tnN (cellAt ns 1) n)).drop (dr (cellAt ns 1) 20 16 % (((inpI (cellAt ns 1) (tnN (cellAt ns 1) n)).length : Int) + 1)).toNat) "nobody" (dr (cellAt ns 1) 20 16 % (((inpI (cellAt ns 1) (tnN (cellAt ns 1) n)).length : Int) + 1)).toNat "none1" okC (un_at hA8) (no_name hT (.inl rfl)) (un_pre hI.h hA8) (by rw [List.length_append, List.length_append, List.length_take, List.length_drop]; simp only [List.length_cons, List.length_nil]; omega) (by decide +kernel) | exact .mk n (tnN (cellAt ns 1) n) (V1 ++ [exD (cellAt ns 1) n]) ((inpI (cellAt ns 1) (tnN (cellAt ns 1) n)) ++ [("none2" : Str), "none1"]) _ (inpI (cellAt ns 1) (tnN (cellAt ns 1) n)).length "none2" okC (by rw [List.append_assoc, List.getElem?_append_right (Nat.le_refl _), Nat.sub_self]; rfl) (no_name hT (.inr (.inl rfl))) (un_in2 hI.h) (by rw [List.length_append]; simp only [List.length_cons, List.length_nil]; omega) (by decide +kernel))) ed_str (by walk_at "c2")) (fun hb8 => (tw_or1 (td_cmp (ed_call G_law_unknown (hr.mono (by decide)) (by rfl) (ad_cons (ed_var 11 rfl) (ad_cons (ED.eq (d' := .lst (((inpI (cellAt ns 1) (tnN (cellAt ns 1) n)).take (dr (cellAt ns 1) 20 16 % (((inpI (cellAt ns 1) (tnN (cellAt ns 1) n)).length : Int) + 1)).toNat ++ [("none1" : Str)] ++ (inpI (cellAt ns 1) (tnN (cellAt ns 1) n)).drop (dr (cellAt ns 1) 20 16 % (((inpI (cellAt ns 1) (tnN (cellAt ns 1) n)).length : Int) + 1)).toNat).map .str)) (ed_lst (eo_cat (ed_lst (eo_cat (ed_lst (eo_slice (ed_var 12 rfl) no_part (some_part (ed_var 15 rfl)))) (ed_lst (eo_lst (ad_cons ed_str ad_nil))) (by simp only [cut_tk8 _ (show (0 : Int) ≤ ((dr (cellAt ns 1) 20 16 % (((inpI (cellAt ns 1) (tnN (cellAt ns 1) n)).length : Int) + 1)).toNat : Int) by omega), List.length_take, List.length_map, List.length_cons, List.length_nil]; rw [sizeLine_eq]; omega))) (ed_lst (eo_slice (ed_var 12 rfl) (some_part (ed_var 15 rfl)) no_part)) (by simp only [cutDrop _ (show (0 : Int) ≤ ((dr (cellAt ns 1) 20 16 % (((inpI (cellAt ns 1) (tnN (cellAt ns 1) n)).length : Int) + 1)).toNat : Int) by omega), cut_tk8 _ (show (0 : Int) ≤ ((dr (cellAt ns 1) 20 16 % (((inpI (cellAt ns 1) (tnN (cellAt ns 1) n)).length : Int) + 1)).toNat : Int) by omega), List.length_append, List.length_drop, List.length_take, List.length_map, List.length_cons, List.length_nil]; rw [sizeLine_eq]; omega))) (by rw [cutDrop _ (by omega), cut_tk8 _ (by omega), Int.toNat_natCast, ← List.map_drop, ← List.map_take, List.map_append, List.map_append]; rfl)) (ad_cons ed_str ad_nil))) (by first | exact .mk n (tnN (cellAt ns 1) n) (V1 ++ [exD (cellAt ns 1) n]) (inpI (cellAt ns 1) (tnN (cellAt ns 1) n)) "nobody" (inpI (cellAt ns 1) (tnN (cellAt ns 1) n)).length "nobody" okC (by rw [List.getElem?_append_right (Nat.le_refl _), Nat.sub_self]; rfl) (no_name hT (.inr (.inr rfl))) (un_in hI.h) (by omega) (by decide +kernel) | exact .mk n (tnN (cellAt ns 1) n) (V1 ++ [exD (cellAt ns 1) n]) ((inpI (cellAt ns 1) (tnN (cellAt ns 1) n)).take (dr (cellAt ns 1) 20 16 % (((inpI (cellAt ns 1) (tnN (cellAt ns 1) n)).length : Int) + 1)).toNat ++ [("none1" : Str)] ++ (inpI (cellAt ns 1) (tnN (cellAt ns 1) n)).drop (dr (cellAt ns 1) 20 16 % (((inpI (cellAt ns 1) (tnN (cellAt ns 1) n)).length : Int) + 1)).toNat) "nobody" (dr (cellAt ns 1) 20 16 % (((inpI (cellAt ns 1) (tnN (cellAt ns 1) n)).length : Int) + 1)).toNat "none1" okC (un_at hA8) (no_name hT (.inl rfl)) (un_pre hI.h hA8) (by rw [List.length_append, List.length_append, List.length_take, List.length_drop]; simp only [List.length_cons, List.length_nil]; omega) (by decide +kernel) | exact .mk n (tnN (cellAt ns 1) n) (V1 ++ [exD (cellAt ns 1) n]) ((inpI (cellAt ns 1) (tnN (cellAt ns 1) n)) ++ [("none2" : Str), "none1"]) _ (inpI (cellAt ns 1) (tnN (cellAt ns 1) n)).length "none2" okC (by rw [List.append_assoc, List.getElem?_append_right (Nat.le_refl _), Nat.sub_self]; rfl) (no_name hT (.inr (.inl rfl))) (un_in2 hI.h) (by rw [List.length_append]; simp only [List.length_cons, List.length_nil]; omega) (by decide +kernel))) ed_str (by walk_at "c2")))))) (fun hc7 => ?_) (fun hc7 => ?_))
        · skip
          exfalso; simp at hc7
        · skip
          clear hc7
          refine ws_nil ?_
          refine ws_cons (ws_ret (ED.eq (ed_cmp (ed_call G_law_unknown (hr.mono (by decide)) (by rfl) (ad_cons (ed_var 11 rfl) (ad_cons (ED.eq (d' := .lst (((inpI (cellAt ns 1) (tnN (cellAt ns 1) n)) ++ [("none2" : Str), "none1"]).map .str)) (ed_lst (eo_cat (ed_var 12 rfl) (ed_lst (eo_lst (ad_cons ed_str (ad_cons ed_str ad_nil)))) (by rw [List.length_map, sizeLine_eq]; simp only [List.length_cons, List.length_nil]; omega))) (by rw [List.map_append]; rfl)) (ad_cons (ED.eq (d' := .str (((tnN (cellAt ns 1) n).getD 0 ((0 : Int), (default : Str))).2)) (ed_ix (ed_ix (d := nmE ((tnN (cellAt ns 1) n).getD 0 ((0 : Int), (default : Str)))) (ed_var 2 rfl) ed_int (.l (atI_nat (j := 0) (by have h8 : 0 < (tnN (cellAt ns 1) n).length := List.length_pos_iff.mpr hT.ne; rw [List.getElem?_map, List.getD_eq_getElem?_getD, List.getElem?_eq_getElem h8]; rfl)))) ed_int IX.t1) rfl) ad_nil))) (by first | exact .mk n (tnN (cellAt ns 1) n) (V1 ++ [exD (cellAt ns 1) n]) (inpI (cellAt ns 1) (tnN (cellAt ns 1) n)) "nobody" (inpI (cellAt ns 1) (tnN (cellAt ns 1) n)).length "nobody" okC (by rw [List.getElem?_append_right (Nat.le_refl _), Nat.sub_self]; rfl) (no_name hT (.inr (.inr rfl))) (un_in hI.h) (by omega) (by decide +kernel) | exact .mk n (tnN (cellAt ns 1) n) (V1 ++ [exD (cellAt ns 1) n]) ((inpI (cellAt ns 1) (tnN (cellAt ns 1) n)).take (dr (cellAt ns 1) 20 16 % (((inpI (cellAt ns 1) (tnN (cellAt ns 1) n)).length : Int) + 1)).toNat ++ [("none1" : Str)] ++ (inpI (cellAt ns 1) (tnN (cellAt ns 1) n)).drop (dr (cellAt ns 1) 20 16 % (((inpI (cellAt ns 1) (tnN (cellAt ns 1) n)).length : Int) + 1)).toNat) "nobody" (dr (cellAt ns 1) 20 16 % (((inpI (cellAt ns 1) (tnN (cellAt ns 1) n)).length : Int) + 1)).toNat "none1" okC (un_at hA8) (no_name hT (.inl rfl)) (un_pre hI.h hA8) (by rw [List.length_append, List.length_append, List.length_take, List.length_drop]; simp only [List.length_cons, List.length_nil]; omega) (by decide +kernel) | exact .mk n (tnN (cellAt ns 1) n) (V1 ++ [exD (cellAt ns 1) n]) ((inpI (cellAt ns 1) (tnN (cellAt ns 1) n)) ++ [("none2" : Str), "none1"]) _ (inpI (cellAt ns 1) (tnN (cellAt ns 1) n)).length "none2" okC (by rw [List.append_assoc, List.getElem?_append_right (Nat.le_refl _), Nat.sub_self]; rfl) (no_name hT (.inr (.inl rfl))) (un_in2 hI.h) (by rw [List.length_append]; simp only [List.length_cons, List.length_nil]; omega) (by decide +kernel))) ed_str (by walk_at "c2")) ?_) (Or.inl rfl))
          simp
end
theorem all_mk {l : PySem.W.OpenLaw} {w : World} {K : PySem.W.Frag} {h : Heap} {mg : Str → Option Value} {fa : Addr} (X : K.In h) (G : h.Ns mainGlobals mg) (hfa : mg "law" = some (.ref fa))
    {C_Groups : Addr} (aC_Groups : PySem.W.nsIn K mainGlobals "Groups" = some (some (.ref C_Groups)))
    (pg_Groups : PySem.W.plainGet K C_Groups Str.empty = true) (hd_Groups : PySem.W.hasDictIn K C_Groups = true) (po_Groups : PySem.W.plainOver K C_Groups = true) (sa_Groups : PySem.W.findIn K (.ref C_Groups) "__setattr__" = some (some (.builtin "object.__setattr__"))) (ha_Groups : PySem.W.findIn K (.ref C_Groups) "__class__" = some (some (.builtin "object.__class__"))) (hn_Groups : PySem.W.specialIn K (.builtin "object.__class__") "__get__" = some (some (.builtin "getset_descriptor.__get__"))) (htk_Groups : PySem.W.takesIn K (.builtin "object.__class__") = some true) (hm_Groups : PySem.W.mroIn K C_Groups (.type "object") = some true) (kc_Groups : PySem.W.keepIn K (.ref C_Groups) = true) (mk_Groups : PySem.W.makesIn K C_Groups = true)
    (na0_Groups : PySem.W.findIn K (.ref C_Groups) "_links" = some none)
    {C_Circuit : Addr} (aC_Circuit : PySem.W.nsIn K mainGlobals "Circuit" = some (some (.ref C_Circuit)))
    (pg_Circuit : PySem.W.plainGet K C_Circuit Str.empty = true) (hd_Circuit : PySem.W.hasDictIn K C_Circuit = true) (po_Circuit : PySem.W.plainOver K C_Circuit = true) (sa_Circuit : PySem.W.findIn K (.ref C_Circuit) "__setattr__" = some (some (.builtin "object.__setattr__"))) (ha_Circuit : PySem.W.findIn K (.ref C_Circuit) "__class__" = some (some (.builtin "object.__class__"))) (hn_Circuit : PySem.W.specialIn K (.builtin "object.__class__") "__get__" = some (some (.builtin "getset_descriptor.__get__"))) (htk_Circuit : PySem.W.takesIn K (.builtin "object.__class__") = some true) (hm_Circuit : PySem.W.mroIn K C_Circuit (.type "object") = some true) (kc_Circuit : PySem.W.keepIn K (.ref C_Circuit) = true) (mk_Circuit : PySem.W.makesIn K C_Circuit = true)
    (na0_Circuit : PySem.W.findIn K (.ref C_Circuit) "net_count" = some none)
    (na1_Circuit : PySem.W.findIn K (.ref C_Circuit) "names" = some none)
    (na2_Circuit : PySem.W.findIn K (.ref C_Circuit) "devices" = some none)
    (na3_Circuit : PySem.W.findIn K (.ref C_Circuit) "_name_table" = some none)
    {f0 : Addr} {od0 an0 : Option Addr} {sl0 : Array (Option Value)} {oc0 kV0 dc0 pm0 cd0 ct0 : Value} (a0 : PySem.W.findIn K (.ref C_Groups) "__init__" = some (some (.ref f0))) (i0 : PySem.W.isFn K (.ref f0) = true) (l0 : K.lookup f0 = some ⟨oc0, od0, .func (PySem.W.fnOf "__init__" "Groups.__init__" (defArgs s_Groups_init) (defBody s_Groups_init) (defScope s_Groups_init) .none kV0 dc0 pm0 an0 cd0 ct0), sl0⟩) (c0 : PySem.W.codeIn K cd0 "Groups.__init__" = true) (k0 : PySem.W.keepIn K (.ref f0) = true)
    {f1 : Addr} {od1 an1 : Option Addr} {sl1 : Array (Option Value)} {oc1 kV1 dc1 pm1 cd1 ct1 : Value} (a1 : PySem.W.findIn K (.ref C_Groups) "root" = some (some (.ref f1))) (i1 : PySem.W.isFn K (.ref f1) = true) (l1 : K.lookup f1 = some ⟨oc1, od1, .func (PySem.W.fnOf "root" "Groups.root" (defArgs s_Groups_root) (defBody s_Groups_root) (defScope s_Groups_root) .none kV1 dc1 pm1 an1 cd1 ct1), sl1⟩) (c1 : PySem.W.codeIn K cd1 "Groups.root" = true) (k1 : PySem.W.keepIn K (.ref f1) = true)
    {f2 : Addr} {od2 an2 : Option Addr} {sl2 : Array (Option Value)} {oc2 kV2 dc2 pm2 cd2 ct2 : Value} (a2 : PySem.W.findIn K (.ref C_Groups) "unite" = some (some (.ref f2))) (i2 : PySem.W.isFn K (.ref f2) = true) (l2 : K.lookup f2 = some ⟨oc2, od2, .func (PySem.W.fnOf "unite" "Groups.unite" (defArgs s_Groups_unite) (defBody s_Groups_unite) (defScope s_Groups_unite) .none kV2 dc2 pm2 an2 cd2 ct2), sl2⟩) (c2 : PySem.W.codeIn K cd2 "Groups.unite" = true) (k2 : PySem.W.keepIn K (.ref f2) = true)
    {f3 : Addr} {od3 an3 : Option Addr} {sl3 : Array (Option Value)} {oc3 kV3 dc3 pm3 cd3 ct3 : Value} (a3 : PySem.W.findIn K (.ref C_Groups) "indexes" = some (some (.ref f3))) (i3 : PySem.W.isFn K (.ref f3) = true) (l3 : K.lookup f3 = some ⟨oc3, od3, .func (PySem.W.fnOf "indexes" "Groups.indexes" (defArgs s_Groups_indexes) (defBody s_Groups_indexes) (defScope s_Groups_indexes) .none kV3 dc3 pm3 an3 cd3 ct3), sl3⟩) (c3 : PySem.W.codeIn K cd3 "Groups.indexes" = true) (k3 : PySem.W.keepIn K (.ref f3) = true)
    {f4 : Addr} {od4 an4 : Option Addr} {sl4 : Array (Option Value)} {oc4 kV4 dc4 pm4 cd4 ct4 : Value} (a4 : PySem.W.nsIn K mainGlobals "links_of" = some (some (.ref f4))) (l4 : K.lookup f4 = some ⟨oc4, od4, .func (PySem.W.fnOf "links_of" "links_of" (defArgs s_links_of_l) (defBody s_links_of_l) (defScope s_links_of_l) .none kV4 dc4 pm4 an4 cd4 ct4), sl4⟩) (c4 : PySem.W.codeIn K cd4 "links_of" = true) (k4 : PySem.W.keepIn K (.ref f4) = true)
    {f5 : Addr} {od5 an5 : Option Addr} {sl5 : Array (Option Value)} {oc5 kV5 dc5 pm5 cd5 ct5 : Value} (a5 : PySem.W.nsIn K mainGlobals "pulled" = some (some (.ref f5))) (l5 : K.lookup f5 = some ⟨oc5, od5, .func (PySem.W.fnOf "pulled" "pulled" (defArgs s_pulled) (defBody s_pulled) (defScope s_pulled) .none kV5 dc5 pm5 an5 cd5 ct5), sl5⟩) (c5 : PySem.W.codeIn K cd5 "pulled" = true) (k5 : PySem.W.keepIn K (.ref f5) = true)
    {f6 : Addr} {od6 an6 : Option Addr} {sl6 : Array (Option Value)} {oc6 kV6 dc6 pm6 cd6 ct6 : Value} (a6 : PySem.W.nsIn K mainGlobals "known_values" = some (some (.ref f6))) (l6 : K.lookup f6 = some ⟨oc6, od6, .func (PySem.W.fnOf "known_values" "known_values" (defArgs s_known_values_l) (defBody s_known_values_l) (defScope s_known_values_l) .none kV6 dc6 pm6 an6 cd6 ct6), sl6⟩) (c6 : PySem.W.codeIn K cd6 "known_values" = true) (k6 : PySem.W.keepIn K (.ref f6) = true)
    {f7 : Addr} {od7 an7 : Option Addr} {sl7 : Array (Option Value)} {oc7 kV7 dc7 pm7 cd7 ct7 : Value} (a7 : PySem.W.nsIn K mainGlobals "device_groups" = some (some (.ref f7))) (l7 : K.lookup f7 = some ⟨oc7, od7, .func (PySem.W.fnOf "device_groups" "device_groups" (defArgs s_device_groups) (defBody s_device_groups) (defScope s_device_groups) .none kV7 dc7 pm7 an7 cd7 ct7), sl7⟩) (c7 : PySem.W.codeIn K cd7 "device_groups" = true) (k7 : PySem.W.keepIn K (.ref f7) = true)
    {f8 : Addr} {od8 an8 : Option Addr} {sl8 : Array (Option Value)} {oc8 kV8 dc8 pm8 cd8 ct8 : Value} (a8 : PySem.W.nsIn K mainGlobals "indexes_by_gate" = some (some (.ref f8))) (l8 : K.lookup f8 = some ⟨oc8, od8, .func (PySem.W.fnOf "indexes_by_gate" "indexes_by_gate" (defArgs s_indexes_by_gate) (defBody s_indexes_by_gate) (defScope s_indexes_by_gate) .none kV8 dc8 pm8 an8 cd8 ct8), sl8⟩) (c8 : PySem.W.codeIn K cd8 "indexes_by_gate" = true) (k8 : PySem.W.keepIn K (.ref f8) = true)
    {f9 : Addr} {od9 an9 : Option Addr} {sl9 : Array (Option Value)} {oc9 kV9 dc9 pm9 cd9 ct9 : Value} (a9 : PySem.W.nsIn K mainGlobals "settle" = some (some (.ref f9))) (l9 : K.lookup f9 = some ⟨oc9, od9, .func (PySem.W.fnOf "settle" "settle" (defArgs s_settle) (defBody s_settle) (defScope s_settle) .none kV9 dc9 pm9 an9 cd9 ct9), sl9⟩) (c9 : PySem.W.codeIn K cd9 "settle" = true) (k9 : PySem.W.keepIn K (.ref f9) = true)
    {f10 : Addr} {od10 an10 : Option Addr} {sl10 : Array (Option Value)} {oc10 kV10 dc10 pm10 cd10 ct10 : Value} (a10 : PySem.W.nsIn K mainGlobals "combinations_of" = some (some (.ref f10))) (l10 : K.lookup f10 = some ⟨oc10, od10, .func (PySem.W.fnOf "combinations_of" "combinations_of" (defArgs s_combinations_of) (defBody s_combinations_of) (defScope s_combinations_of) .none kV10 dc10 pm10 an10 cd10 ct10), sl10⟩) (c10 : PySem.W.codeIn K cd10 "combinations_of" = true) (k10 : PySem.W.keepIn K (.ref f10) = true)
    {f11 : Addr} {od11 an11 : Option Addr} {sl11 : Array (Option Value)} {oc11 kV11 dc11 pm11 cd11 ct11 : Value} (a11 : PySem.W.nsIn K mainGlobals "table" = some (some (.ref f11))) (l11 : K.lookup f11 = some ⟨oc11, od11, .func (PySem.W.fnOf "table" "table" (defArgs s_table) (defBody s_table) (defScope s_table) .none kV11 dc11 pm11 an11 cd11 ct11), sl11⟩) (c11 : PySem.W.codeIn K cd11 "table" = true) (k11 : PySem.W.keepIn K (.ref f11) = true)
    {f12 : Addr} {od12 an12 : Option Addr} {sl12 : Array (Option Value)} {oc12 kV12 dc12 pm12 cd12 ct12 : Value} (a12 : PySem.W.nsIn K mainGlobals "is_name" = some (some (.ref f12))) (l12 : K.lookup f12 = some ⟨oc12, od12, .func (PySem.W.fnOf "is_name" "is_name" (defArgs s_is_name) (defBody s_is_name) (defScope s_is_name) .none kV12 dc12 pm12 an12 cd12 ct12), sl12⟩) (c12 : PySem.W.codeIn K cd12 "is_name" = true) (k12 : PySem.W.keepIn K (.ref f12) = true)
    {f13 : Addr} {od13 an13 : Option Addr} {sl13 : Array (Option Value)} {oc13 kV13 dc13 pm13 cd13 ct13 : Value} (a13 : PySem.W.nsIn K mainGlobals "is_net_count" = some (some (.ref f13))) (l13 : K.lookup f13 = some ⟨oc13, od13, .func (PySem.W.fnOf "is_net_count" "is_net_count" (defArgs s_is_net_count) (defBody s_is_net_count) (defScope s_is_net_count) .none kV13 dc13 pm13 an13 cd13 ct13), sl13⟩) (c13 : PySem.W.codeIn K cd13 "is_net_count" = true) (k13 : PySem.W.keepIn K (.ref f13) = true)
    {f14 : Addr} {od14 an14 : Option Addr} {sl14 : Array (Option Value)} {oc14 kV14 dc14 pm14 cd14 ct14 : Value} (a14 : PySem.W.nsIn K mainGlobals "is_device" = some (some (.ref f14))) (l14 : K.lookup f14 = some ⟨oc14, od14, .func (PySem.W.fnOf "is_device" "is_device" (defArgs s_is_device) (defBody s_is_device) (defScope s_is_device) .none kV14 dc14 pm14 an14 cd14 ct14), sl14⟩) (c14 : PySem.W.codeIn K cd14 "is_device" = true) (k14 : PySem.W.keepIn K (.ref f14) = true)
    {f15 : Addr} {od15 an15 : Option Addr} {sl15 : Array (Option Value)} {oc15 kV15 dc15 pm15 cd15 ct15 : Value} (a15 : PySem.W.nsIn K mainGlobals "are_names" = some (some (.ref f15))) (l15 : K.lookup f15 = some ⟨oc15, od15, .func (PySem.W.fnOf "are_names" "are_names" (defArgs s_are_names) (defBody s_are_names) (defScope s_are_names) .none kV15 dc15 pm15 an15 cd15 ct15), sl15⟩) (c15 : PySem.W.codeIn K cd15 "are_names" = true) (k15 : PySem.W.keepIn K (.ref f15) = true)
    {f16 : Addr} {od16 an16 : Option Addr} {sl16 : Array (Option Value)} {oc16 kV16 dc16 pm16 cd16 ct16 : Value} (a16 : PySem.W.findIn K (.ref C_Circuit) "__init__" = some (some (.ref f16))) (i16 : PySem.W.isFn K (.ref f16) = true) (l16 : K.lookup f16 = some ⟨oc16, od16, .func (PySem.W.fnOf "__init__" "Circuit.__init__" (defArgs s_Circuit_init) (defBody s_Circuit_init) (defScope s_Circuit_init) .none kV16 dc16 pm16 an16 cd16 ct16), sl16⟩) (c16 : PySem.W.codeIn K cd16 "Circuit.__init__" = true) (k16 : PySem.W.keepIn K (.ref f16) = true)
    {f17 : Addr} {od17 an17 : Option Addr} {sl17 : Array (Option Value)} {oc17 kV17 dc17 pm17 cd17 ct17 : Value} (a17 : PySem.W.findIn K (.ref C_Circuit) "__eq__" = some (some (.ref f17))) (i17 : PySem.W.isFn K (.ref f17) = true) (l17 : K.lookup f17 = some ⟨oc17, od17, .func (PySem.W.fnOf "__eq__" "Circuit.__eq__" (defArgs s_Circuit_eq) (defBody s_Circuit_eq) (defScope s_Circuit_eq) .none kV17 dc17 pm17 an17 cd17 ct17), sl17⟩) (c17 : PySem.W.codeIn K cd17 "Circuit.__eq__" = true) (k17 : PySem.W.keepIn K (.ref f17) = true)
    {f18 : Addr} {od18 an18 : Option Addr} {sl18 : Array (Option Value)} {oc18 kV18 dc18 pm18 cd18 ct18 : Value} (a18 : PySem.W.nsIn K mainGlobals "_law_cell" = some (some (.ref f18))) (l18 : K.lookup f18 = some ⟨oc18, od18, .func (PySem.W.fnOf "_law_cell" "_law_cell" (defArgs s_law_cell) (defBody s_law_cell) (defScope s_law_cell) .none kV18 dc18 pm18 an18 cd18 ct18), sl18⟩) (c18 : PySem.W.codeIn K cd18 "_law_cell" = true) (k18 : PySem.W.keepIn K (.ref f18) = true)
    {f19 : Addr} {od19 an19 : Option Addr} {sl19 : Array (Option Value)} {oc19 kV19 dc19 pm19 cd19 ct19 : Value} (a19 : PySem.W.nsIn K mainGlobals "_law_draws" = some (some (.ref f19))) (l19 : K.lookup f19 = some ⟨oc19, od19, .func (PySem.W.fnOf "_law_draws" "_law_draws" (defArgs s_law_draws) (defBody s_law_draws) (defScope s_law_draws) .none kV19 dc19 pm19 an19 cd19 ct19), sl19⟩) (c19 : PySem.W.codeIn K cd19 "_law_draws" = true) (k19 : PySem.W.keepIn K (.ref f19) = true)
    {f20 : Addr} {od20 an20 : Option Addr} {sl20 : Array (Option Value)} {oc20 kV20 dc20 pm20 cd20 ct20 : Value} (a20 : PySem.W.nsIn K mainGlobals "_law_is_text" = some (some (.ref f20))) (l20 : K.lookup f20 = some ⟨oc20, od20, .func (PySem.W.fnOf "_law_is_text" "_law_is_text" (defArgs s_law_is_text) (defBody s_law_is_text) (defScope s_law_is_text) .none kV20 dc20 pm20 an20 cd20 ct20), sl20⟩) (c20 : PySem.W.codeIn K cd20 "_law_is_text" = true) (k20 : PySem.W.keepIn K (.ref f20) = true)
    {f21 : Addr} {od21 an21 : Option Addr} {sl21 : Array (Option Value)} {oc21 kV21 dc21 pm21 cd21 ct21 : Value} (a21 : PySem.W.nsIn K mainGlobals "_law_is_texts" = some (some (.ref f21))) (l21 : K.lookup f21 = some ⟨oc21, od21, .func (PySem.W.fnOf "_law_is_texts" "_law_is_texts" (defArgs s_law_is_texts) (defBody s_law_is_texts) (defScope s_law_is_texts) .none kV21 dc21 pm21 an21 cd21 ct21), sl21⟩) (c21 : PySem.W.codeIn K cd21 "_law_is_texts" = true) (k21 : PySem.W.keepIn K (.ref f21) = true)
    {f22 : Addr} {od22 an22 : Option Addr} {sl22 : Array (Option Value)} {oc22 kV22 dc22 pm22 cd22 ct22 : Value} (a22 : PySem.W.nsIn K mainGlobals "_law_name" = some (some (.ref f22))) (l22 : K.lookup f22 = some ⟨oc22, od22, .func (PySem.W.fnOf "_law_name" "_law_name" (defArgs s_law_name) (defBody s_law_name) (defScope s_law_name) .none kV22 dc22 pm22 an22 cd22 ct22), sl22⟩) (c22 : PySem.W.codeIn K cd22 "_law_name" = true) (k22 : PySem.W.keepIn K (.ref f22) = true)
    {f23 : Addr} {od23 an23 : Option Addr} {sl23 : Array (Option Value)} {oc23 kV23 dc23 pm23 cd23 ct23 : Value} (a23 : PySem.W.nsIn K mainGlobals "_law_qcircuit" = some (some (.ref f23))) (l23 : K.lookup f23 = some ⟨oc23, od23, .func (PySem.W.fnOf "_law_qcircuit" "_law_qcircuit" (defArgs s_law_qcircuit) (defBody s_law_qcircuit) (defScope s_law_qcircuit) .none kV23 dc23 pm23 an23 cd23 ct23), sl23⟩) (c23 : PySem.W.codeIn K cd23 "_law_qcircuit" = true) (k23 : PySem.W.keepIn K (.ref f23) = true)
    {f24 : Addr} {od24 an24 : Option Addr} {sl24 : Array (Option Value)} {oc24 kV24 dc24 pm24 cd24 ct24 : Value} (a24 : PySem.W.nsIn K mainGlobals "_law_qreach" = some (some (.ref f24))) (l24 : K.lookup f24 = some ⟨oc24, od24, .func (PySem.W.fnOf "_law_qreach" "_law_qreach" (defArgs s_law_qreach) (defBody s_law_qreach) (defScope s_law_qreach) .none kV24 dc24 pm24 an24 cd24 ct24), sl24⟩) (c24 : PySem.W.codeIn K cd24 "_law_qreach" = true) (k24 : PySem.W.keepIn K (.ref f24) = true)
    {f25 : Addr} {od25 an25 : Option Addr} {sl25 : Array (Option Value)} {oc25 kV25 dc25 pm25 cd25 ct25 : Value} (a25 : PySem.W.nsIn K mainGlobals "_law_qnext" = some (some (.ref f25))) (l25 : K.lookup f25 = some ⟨oc25, od25, .func (PySem.W.fnOf "_law_qnext" "_law_qnext" (defArgs s_law_qnext) (defBody s_law_qnext) (defScope s_law_qnext) .none kV25 dc25 pm25 an25 cd25 ct25), sl25⟩) (c25 : PySem.W.codeIn K cd25 "_law_qnext" = true) (k25 : PySem.W.keepIn K (.ref f25) = true)
    {f26 : Addr} {od26 an26 : Option Addr} {sl26 : Array (Option Value)} {oc26 kV26 dc26 pm26 cd26 ct26 : Value} (a26 : PySem.W.nsIn K mainGlobals "_law_qsettle" = some (some (.ref f26))) (l26 : K.lookup f26 = some ⟨oc26, od26, .func (PySem.W.fnOf "_law_qsettle" "_law_qsettle" (defArgs s_law_qsettle) (defBody s_law_qsettle) (defScope s_law_qsettle) .none kV26 dc26 pm26 an26 cd26 ct26), sl26⟩) (c26 : PySem.W.codeIn K cd26 "_law_qsettle" = true) (k26 : PySem.W.keepIn K (.ref f26) = true)
    {f27 : Addr} {od27 an27 : Option Addr} {sl27 : Array (Option Value)} {oc27 kV27 dc27 pm27 cd27 ct27 : Value} (a27 : PySem.W.nsIn K mainGlobals "_law_unknown" = some (some (.ref f27))) (l27 : K.lookup f27 = some ⟨oc27, od27, .func (PySem.W.fnOf "_law_unknown" "_law_unknown" (defArgs s_law_unknown) (defBody s_law_unknown) (defScope s_law_unknown) .none kV27 dc27 pm27 an27 cd27 ct27), sl27⟩) (c27 : PySem.W.codeIn K cd27 "_law_unknown" = true) (k27 : PySem.W.keepIn K (.ref f27) = true)
    {f28 : Addr} {od28 an28 : Option Addr} {sl28 : Array (Option Value)} {oc28 kV28 dc28 pm28 cd28 ct28 : Value} (a28 : PySem.W.nsIn K mainGlobals "_law_values" = some (some (.ref f28))) (l28 : K.lookup f28 = some ⟨oc28, od28, .func (PySem.W.fnOf "_law_values" "_law_values" (defArgs s_law_values) (defBody s_law_values) (defScope s_law_values) .none kV28 dc28 pm28 an28 cd28 ct28), sl28⟩) (c28 : PySem.W.codeIn K cd28 "_law_values" = true) (k28 : PySem.W.keepIn K (.ref f28) = true)
    {f29 : Addr} {od29 an29 : Option Addr} {sl29 : Array (Option Value)} {oc29 kV29 dc29 pm29 cd29 ct29 : Value} (a29 : PySem.W.nsIn K mainGlobals "law" = some (some (.ref f29))) (l29 : K.lookup f29 = some ⟨oc29, od29, .func (PySem.W.fnOf "law" "law" (defArgs s_law) (defBody s_law) (defScope s_law) .none kV29 dc29 pm29 an29 cd29 ct29), sl29⟩) (c29 : PySem.W.codeIn K cd29 "law" = true) (k29 : PySem.W.keepIn K (.ref f29) = true)
    (z_all : PySem.W.nsIn K mainGlobals "all" = some none)
    (z_dict : PySem.W.nsIn K mainGlobals "dict" = some none)
    (z_enumerate : PySem.W.nsIn K mainGlobals "enumerate" = some none)
    (z_int : PySem.W.nsIn K mainGlobals "int" = some none)
    (z_isinstance : PySem.W.nsIn K mainGlobals "isinstance" = some none)
    (z_len : PySem.W.nsIn K mainGlobals "len" = some none)
    (z_list : PySem.W.nsIn K mainGlobals "list" = some none)
    (z_max : PySem.W.nsIn K mainGlobals "max" = some none)
    (z_min : PySem.W.nsIn K mainGlobals "min" = some none)
    (z_range : PySem.W.nsIn K mainGlobals "range" = some none)
    (z_set : PySem.W.nsIn K mainGlobals "set" = some none)
    (z_sorted : PySem.W.nsIn K mainGlobals "sorted" = some none)
    (z_str : PySem.W.nsIn K mainGlobals "str" = some none)
    (z_tuple : PySem.W.nsIn K mainGlobals "tuple" = some none)
    (z_zip : PySem.W.nsIn K mainGlobals "zip" = some none)
    {u_KINDS : Value} (y_KINDS : PySem.W.nsIn K mainGlobals "KINDS" = some (some u_KINDS)) (w_KINDS : KD K (.tup [.str "n", .str "p"]) u_KINDS)
    {u_MOST_CHARACTERS : Value} (y_MOST_CHARACTERS : PySem.W.nsIn K mainGlobals "MOST_CHARACTERS" = some (some u_MOST_CHARACTERS)) (w_MOST_CHARACTERS : KD K (.int 12) u_MOST_CHARACTERS)
    {u_MOST_DEVICES : Value} (y_MOST_DEVICES : PySem.W.nsIn K mainGlobals "MOST_DEVICES" = some (some u_MOST_DEVICES)) (w_MOST_DEVICES : KD K (.int 200) u_MOST_DEVICES)
    {u_MOST_NETS : Value} (y_MOST_NETS : PySem.W.nsIn K mainGlobals "MOST_NETS" = some (some u_MOST_NETS)) (w_MOST_NETS : KD K (.int 200) u_MOST_NETS)
    {u_PERHAPS : Value} (y_PERHAPS : PySem.W.nsIn K mainGlobals "PERHAPS" = some (some u_PERHAPS)) (w_PERHAPS : KD K (.tup [.str "n1", .str "nx", .str "p0", .str "px"]) u_PERHAPS)
    {u_SUPPLIES : Value} (y_SUPPLIES : PySem.W.nsIn K mainGlobals "SUPPLIES" = some (some u_SUPPLIES)) (w_SUPPLIES : KD K (.tup [.tup [.str "vdd", .str "1"], .tup [.str "gnd", .str "0"]]) u_SUPPLIES)
    {u_SURE : Value} (y_SURE : PySem.W.nsIn K mainGlobals "SURE" = some (some u_SURE)) (w_SURE : KD K (.tup [.str "n1", .str "p0"]) u_SURE)
    {E_UnknownName : Addr} (ea_UnknownName : PySem.W.nsIn K mainGlobals "UnknownName" = some (some (.ref E_UnknownName)))
    (es_UnknownName : PySem.W.subIn K (.ref E_UnknownName) (.type "BaseException") = some true)
    (ed_UnknownName : PySem.W.hasDictIn K E_UnknownName = true)
    (et_UnknownName : PySem.W.typeIn K (.ref E_UnknownName) = some (.type "type"))
    (e4_m2 : PySem.W.subIn K (.ref E_UnknownName) (.ref E_UnknownName) = some true)
    (xga_UnknownName : PySem.W.findIn K (.ref E_UnknownName) "__getattribute__" = some (some (.builtin "BaseException.__getattribute__")))
    (xgg_UnknownName : PySem.W.findIn K (.ref E_UnknownName) "__getattr__" = some none)
    (xno0_UnknownName : PySem.W.findIn K (.ref E_UnknownName) "name" = some none)
    {eF_UnknownName eK_UnknownName eO_UnknownName : Addr} {edd_UnknownName : Option Addr} {ecd_UnknownName : ClassData} {esl_UnknownName : Array (Option Value)} {eoc_UnknownName ekV_UnknownName edoc_UnknownName epm_UnknownName ect_UnknownName ecl_UnknownName eccl_UnknownName : Value} {ean_UnknownName eod_UnknownName ecld_UnknownName ecdd_UnknownName : Option Addr} {eosl_UnknownName ecsl_UnknownName eccs_UnknownName : Array (Option Value)} {evs_UnknownName : Array Value} {efl_UnknownName : Str} {etf_UnknownName : Tok}
    (lcl_UnknownName : K.lookup E_UnknownName = some ⟨.type "type", edd_UnknownName, .cls ecd_UnknownName, esl_UnknownName⟩)
    (lox_UnknownName : oexD E_UnknownName ecd_UnknownName esl_UnknownName = true)
    (lsa_UnknownName : PySem.W.findIn K (.ref E_UnknownName) "__setattr__" = some (some (.builtin "object.__setattr__")))
    (lkp_UnknownName : PySem.W.keepIn K (.ref E_UnknownName) = true)
    (lin_UnknownName : PySem.W.findIn K (.ref E_UnknownName) "__init__" = some (some (.ref eF_UnknownName)))
    (lti_UnknownName : PySem.W.typeIn K (.ref eF_UnknownName) = some (.type "function"))
    (lfn_UnknownName : K.lookup eF_UnknownName = some ⟨eoc_UnknownName, eod_UnknownName, .func (PySem.W.fnX "__init__" "UnknownName.__init__" (defArgs s_E_UnknownName) (defBody s_E_UnknownName) (defScope s_E_UnknownName) [("__class__", eK_UnknownName)] .none ekV_UnknownName edoc_UnknownName epm_UnknownName ean_UnknownName (.ref eO_UnknownName) ect_UnknownName), eosl_UnknownName⟩)
    (lcd_UnknownName : PySem.W.codeIn K (.ref eO_UnknownName) "UnknownName.__init__" = true)
    (lce_UnknownName : K.lookup eK_UnknownName = some ⟨ecl_UnknownName, ecld_UnknownName, .cell (some (.ref E_UnknownName)), ecsl_UnknownName⟩)
    (lco_UnknownName : K.lookup eO_UnknownName = some ⟨eccl_UnknownName, ecdd_UnknownName, .fields evs_UnknownName, eccs_UnknownName⟩)
    (lvs_UnknownName : evs_UnknownName[2]? = some (.str efl_UnknownName etf_UnknownName))
    (lfi_UnknownName : ((l.prog.main.file : Str) == efl_UnknownName) = true)
    (lto_UnknownName : (l.prog.main.scope.names.lookup ("super" : Str)).isSome = false)
    (lsu_UnknownName : PySem.W.nsIn K mainGlobals "super" = some none)
    (lmr_UnknownName : PySem.W.mroIn K E_UnknownName (.ref E_UnknownName) = some true)
    (lop_UnknownName : PySem.W.nsIn K cStatics "thirdparty.any" = some none)
    (lii_UnknownName : PySem.W.ks_superIn K E_UnknownName E_UnknownName "__init__" = some (some (.builtin "ValueError.__init__")))
    (lve_UnknownName : PySem.W.subIn K (.ref E_UnknownName) (.type "ValueError") = some true)
    (lf1_UnknownName : PySem.W.findIn K (.ref E_UnknownName) "name" = some none)
    : ∃ fd : FuncData, (∀ (s : Shared) (v : Value), BindsTo s fd ⟨[v], []⟩ [("script", v)]) ∧ ∀ base : Heap, K.In base → base.Ns mainGlobals mg → FnOk l.prog w K mg base CX0 7 fa fd ["script"] (spR K RLaw) := by
  have e := hfa.symm.trans (PySem.W.mg_of X G a29)
  cases e
  have B : Bt mg := ⟨PySem.W.mg_none_of X G z_all, PySem.W.mg_none_of X G z_dict, PySem.W.mg_none_of X G z_enumerate, PySem.W.mg_none_of X G z_int, PySem.W.mg_none_of X G z_isinstance, PySem.W.mg_none_of X G z_len, PySem.W.mg_none_of X G z_list, PySem.W.mg_none_of X G z_max, PySem.W.mg_none_of X G z_min, PySem.W.mg_none_of X G z_range, PySem.W.mg_none_of X G z_set, PySem.W.mg_none_of X G z_sorted, PySem.W.mg_none_of X G z_str, PySem.W.mg_none_of X G z_tuple, PySem.W.mg_none_of X G z_zip⟩
  have KC : Kt K mg := ⟨⟨⟨u_KINDS, PySem.W.mg_of X G y_KINDS, w_KINDS⟩⟩, ⟨⟨u_MOST_CHARACTERS, PySem.W.mg_of X G y_MOST_CHARACTERS, w_MOST_CHARACTERS⟩⟩, ⟨⟨u_MOST_DEVICES, PySem.W.mg_of X G y_MOST_DEVICES, w_MOST_DEVICES⟩⟩, ⟨⟨u_MOST_NETS, PySem.W.mg_of X G y_MOST_NETS, w_MOST_NETS⟩⟩, ⟨⟨u_PERHAPS, PySem.W.mg_of X G y_PERHAPS, w_PERHAPS⟩⟩, ⟨⟨u_SUPPLIES, PySem.W.mg_of X G y_SUPPLIES, w_SUPPLIES⟩⟩, ⟨⟨u_SURE, PySem.W.mg_of X G y_SURE, w_SURE⟩⟩⟩
  have KL : Lt K mg := ⟨⟨⟨C_Groups, aC_Groups, PySem.W.mg_of X G aC_Groups, ⟨⟨pg_Groups, hd_Groups, po_Groups, sa_Groups⟩, ha_Groups, hn_Groups, htk_Groups, hm_Groups, kit_self⟩, kc_Groups, (List.forall_mem_cons.mpr ⟨na0_Groups, fun _ h => absurd h (by simp)⟩)⟩⟩, ⟨⟨C_Circuit, aC_Circuit, PySem.W.mg_of X G aC_Circuit, ⟨⟨pg_Circuit, hd_Circuit, po_Circuit, sa_Circuit⟩, ha_Circuit, hn_Circuit, htk_Circuit, hm_Circuit, kit_self⟩, kc_Circuit, (List.forall_mem_cons.mpr ⟨na0_Circuit, (List.forall_mem_cons.mpr ⟨na1_Circuit, (List.forall_mem_cons.mpr ⟨na2_Circuit, (List.forall_mem_cons.mpr ⟨na3_Circuit, fun _ h => absurd h (by simp)⟩)⟩)⟩)⟩)⟩⟩⟩
  have XF : Xt K mg := ⟨⟨⟨E_UnknownName, E_UnknownName, ea_UnknownName, PySem.W.mg_of X G ea_UnknownName, PySem.W.exm_ref es_UnknownName ed_UnknownName et_UnknownName e4_m2⟩⟩, ⟨⟨E_UnknownName, ea_UnknownName, ⟨xga_UnknownName, xgg_UnknownName, es_UnknownName, ed_UnknownName⟩, (List.forall_mem_cons.mpr ⟨xno0_UnknownName, fun _ h => absurd h (by simp)⟩)⟩⟩⟩
  have F0 := fun_mk (st := s_Groups_init) l0 c0 k0
  have b0 := F0.binds (ps := ["self", "count"]) fun _ _ _ _ _ _ us hl => match us, hl with | [_, _], _ => rfl
  have F1 := fun_mk (st := s_Groups_root) l1 c1 k1
  have b1 := F1.binds (ps := ["self", "number"]) fun _ _ _ _ _ _ us hl => match us, hl with | [_, _], _ => rfl
  have F2 := fun_mk (st := s_Groups_unite) l2 c2 k2
  have b2 := F2.binds (ps := ["self", "number", "other"]) fun _ _ _ _ _ _ us hl => match us, hl with | [_, _, _], _ => rfl
  have F3 := fun_mk (st := s_Groups_indexes) l3 c3 k3
  have b3 := F3.binds (ps := ["self"]) fun _ _ _ _ _ _ us hl => match us, hl with | [_], _ => rfl
  have F4 := fun_mk (st := s_links_of_l) l4 c4 k4
  have b4 := F4.binds (ps := ["devices", "values", "conducting"]) fun _ _ _ _ _ _ us hl => match us, hl with | [_, _, _], _ => rfl
  have F5 := fun_mk (st := s_pulled) l5 c5 k5
  have b5 := F5.binds (ps := ["links", "fixed", "pulling"]) fun _ _ _ _ _ _ us hl => match us, hl with | [_, _, _], _ => rfl
  have F6 := fun_mk (st := s_known_values_l) l6 c6 k6
  have b6 := F6.binds (ps := ["devices", "fixed", "values"]) fun _ _ _ _ _ _ us hl => match us, hl with | [_, _, _], _ => rfl
  have F7 := fun_mk (st := s_device_groups) l7 c7 k7
  have b7 := F7.binds (ps := ["circuit", "fixed"]) fun _ _ _ _ _ _ us hl => match us, hl with | [_, _], _ => rfl
  have F8 := fun_mk (st := s_indexes_by_gate) l8 c8 k8
  have b8 := F8.binds (ps := ["groups"]) fun _ _ _ _ _ _ us hl => match us, hl with | [_], _ => rfl
  have F9 := fun_mk (st := s_settle) l9 c9 k9
  have b9 := F9.binds (ps := ["circuit", "fixed"]) fun _ _ _ _ _ _ us hl => match us, hl with | [_, _], _ => rfl
  have F10 := fun_mk (st := s_combinations_of) l10 c10 k10
  have b10 := F10.binds (ps := ["count"]) fun _ _ _ _ _ _ us hl => match us, hl with | [_], _ => rfl
  have F11 := fun_mk (st := s_table) l11 c11 k11
  have b11 := F11.binds (ps := ["circuit", "inputs", "output"]) fun _ _ _ _ _ _ us hl => match us, hl with | [_, _, _], _ => rfl
  have F12 := fun_mk (st := s_is_name) l12 c12 k12
  have b12 := F12.binds (ps := ["name"]) fun _ _ _ _ _ _ us hl => match us, hl with | [_], _ => rfl
  have F13 := fun_mk (st := s_is_net_count) l13 c13 k13
  have b13 := F13.binds (ps := ["net_count"]) fun _ _ _ _ _ _ us hl => match us, hl with | [_], _ => rfl
  have F14 := fun_mk (st := s_is_device) l14 c14 k14
  have b14 := F14.binds (ps := ["device", "net_count"]) fun _ _ _ _ _ _ us hl => match us, hl with | [_, _], _ => rfl
  have F15 := fun_mk (st := s_are_names) l15 c15 k15
  have b15 := F15.binds (ps := ["names", "net_count"]) fun _ _ _ _ _ _ us hl => match us, hl with | [_, _], _ => rfl
  have F16 := fun_mk (st := s_Circuit_init) l16 c16 k16
  have b16 := F16.binds (ps := ["self", "net_count", "names", "devices"]) fun _ _ _ _ _ _ us hl => match us, hl with | [_, _, _, _], _ => rfl
  have F17 := fun_mk (st := s_Circuit_eq) l17 c17 k17
  have b17 := F17.binds (ps := ["self", "other"]) fun _ _ _ _ _ _ us hl => match us, hl with | [_, _], _ => rfl
  have F18 := fun_mk (st := s_law_cell) l18 c18 k18
  have b18 := F18.binds (ps := ["script", "k"]) fun _ _ _ _ _ _ us hl => match us, hl with | [_, _], _ => rfl
  have F19 := fun_mk (st := s_law_draws) l19 c19 k19
  have b19 := F19.binds (ps := ["cell", "count"]) fun _ _ _ _ _ _ us hl => match us, hl with | [_, _], _ => rfl
  have F20 := fun_mk (st := s_law_is_text) l20 c20 k20
  have b20 := F20.binds (ps := ["x", "due"]) fun _ _ _ _ _ _ us hl => match us, hl with | [_, _], _ => rfl
  have F21 := fun_mk (st := s_law_is_texts) l21 c21 k21
  have b21 := F21.binds (ps := ["x", "due", "kind"]) fun _ _ _ _ _ _ us hl => match us, hl with | [_, _, _], _ => rfl
  have F22 := fun_mk (st := s_law_name) l22 c22 k22
  have b22 := F22.binds (ps := ["draw"]) fun _ _ _ _ _ _ us hl => match us, hl with | [_], _ => rfl
  have F23 := fun_mk (st := s_law_qcircuit) l23 c23 k23
  have b23 := F23.binds (ps := ["cell", "nets", "most"]) fun _ _ _ _ _ _ us hl => match us, hl with | [_, _, _], _ => rfl
  have F24 := fun_mk (st := s_law_qreach) l24 c24 k24
  have b24 := F24.binds (ps := ["count", "devices", "fixed", "values", "starts", "levels"]) fun _ _ _ _ _ _ us hl => match us, hl with | [_, _, _, _, _, _], _ => rfl
  have F25 := fun_mk (st := s_law_qnext) l25 c25 k25
  have b25 := F25.binds (ps := ["count", "devices", "fixed", "values"]) fun _ _ _ _ _ _ us hl => match us, hl with | [_, _, _, _], _ => rfl
  have F26 := fun_mk (st := s_law_qsettle) l26 c26 k26
  have b26 := F26.binds (ps := ["count", "devices", "fixed"]) fun _ _ _ _ _ _ us hl => match us, hl with | [_, _, _], _ => rfl
  have F27 := fun_mk (st := s_law_unknown) l27 c27 k27
  have b27 := F27.binds (ps := ["circuit", "inputs", "output"]) fun _ _ _ _ _ _ us hl => match us, hl with | [_, _, _], _ => rfl
  have F28 := fun_mk (st := s_law_values) l28 c28 k28
  have b28 := F28.binds (ps := ["count", "devices", "named", "inputs"]) fun _ _ _ _ _ _ us hl => match us, hl with | [_, _, _, _], _ => rfl
  have F29 := fun_mk (st := s_law) l29 c29 k29
  refine ⟨PySem.W.fnOf "law" "law" (defArgs s_law) (defBody s_law) (defScope s_law) .none kV29 dc29 pm29 an29 cd29 ct29, fun s v => .of_eq rfl, fun base _ _ => ?_⟩
  have TE_UnknownName : L2.OexC K E_UnknownName := oex_mk lcl_UnknownName lox_UnknownName lsa_UnknownName es_UnknownName et_UnknownName lkp_UnknownName
  have SE_UnknownName : SupK l.prog K mg E_UnknownName eF_UnknownName eK_UnknownName eO_UnknownName (F_E_UnknownName eK_UnknownName eO_UnknownName) := ⟨⟨rfl, rfl⟩, ⟨eoc_UnknownName, eod_UnknownName, eosl_UnknownName, .none, ekV_UnknownName, edoc_UnknownName, epm_UnknownName, ean_UnknownName, ect_UnknownName, lfn_UnknownName⟩, lcd_UnknownName, ⟨ecl_UnknownName, ecld_UnknownName, ecsl_UnknownName, lce_UnknownName⟩, ⟨eccl_UnknownName, ecdd_UnknownName, eccs_UnknownName, evs_UnknownName, efl_UnknownName, etf_UnknownName, lco_UnknownName, lvs_UnknownName, lfi_UnknownName⟩, lto_UnknownName, ⟨_, rfl, rfl⟩, PySem.W.mg_none_of X G lsu_UnknownName, lmr_UnknownName, lop_UnknownName, lii_UnknownName, lve_UnknownName⟩
  have GE_UnknownName : FnEr l.prog w K mg base "UnknownName" ["name"] 1 R_E_UnknownName := ⟨⟨E_UnknownName, eF_UnknownName, _, ["self", "name"], ea_UnknownName, PySem.W.mg_of X G ea_UnknownName, TE_UnknownName, lin_UnknownName, lti_UnknownName, okE_UnknownName SE_UnknownName TE_UnknownName lf1_UnknownName lfn_UnknownName, Binds.all fun us hl => match us, hl with | [_, _], _ => rfl⟩⟩
  have G_Groups_init : FnIL l.prog w K mg base "Groups" 1 R_Groups_init := ⟨⟨C_Groups, f0, _, _, aC_Groups, PySem.W.mg_of X G aC_Groups, ⟨mk_Groups, a0, i0, kc_Groups⟩, ok_Groups_init F0 B KC KL XF , b0⟩⟩
  have G_Groups_root : FnML l.prog w K mg base "Groups" "root" 1 R_Groups_root := ⟨⟨C_Groups, f1, _, _, aC_Groups, ⟨pg_Groups, hd_Groups, po_Groups, sa_Groups⟩, ⟨a1, i1, k1⟩, ok_Groups_root F1 B KC KL XF , b1⟩⟩
  have G_links_of_l : Fn l.prog w K mg base "links_of" 1 R_links_of_l := fn_wrap (PySem.W.mg_of X G a4) b4 F4.kp (ok_links_of_l F4 B KC KL XF )
  have G_pulled : FnO l.prog w K mg base "pulled" 1 R_pulled := fn_wrapO (PySem.W.mg_of X G a5) b5 F5.kp (ok_pulled F5 B KC KL XF )
  have G_indexes_by_gate : Fn l.prog w K mg base "indexes_by_gate" 1 R_indexes_by_gate := fn_wrap (PySem.W.mg_of X G a8) b8 F8.kp (ok_indexes_by_gate F8 B KC KL XF )
  have G_combinations_of : Fn l.prog w K mg base "combinations_of" 1 R_combinations_of := fn_wrap (PySem.W.mg_of X G a10) b10 F10.kp (ok_combinations_of F10 B KC KL XF )
  have G_is_name : Fn l.prog w K mg base "is_name" 1 R_is_name := fn_wrap (PySem.W.mg_of X G a12) b12 F12.kp (ok_is_name F12 B KC KL XF )
  have G_is_net_count : Fn l.prog w K mg base "is_net_count" 1 R_is_net_count := fn_wrap (PySem.W.mg_of X G a13) b13 F13.kp (ok_is_net_count F13 B KC KL XF )
  have G_is_device : Fn l.prog w K mg base "is_device" 1 R_is_device := fn_wrap (PySem.W.mg_of X G a14) b14 F14.kp (ok_is_device F14 B KC KL XF )
  have G_Circuit_eq : FnM l.prog w K mg base "Circuit" "__eq__" 1 R_Circuit_eq := ⟨⟨C_Circuit, f17, _, _, aC_Circuit, ⟨pg_Circuit, hd_Circuit, po_Circuit, sa_Circuit⟩, ⟨a17, i17, k17⟩, ok_Circuit_eq F17 B KC KL XF , b17⟩⟩
  have G_law_cell : Fn l.prog w K mg base "_law_cell" 1 R_law_cell := fn_wrap (PySem.W.mg_of X G a18) b18 F18.kp (ok_law_cell F18 B KC KL XF )
  have G_law_draws : Fn l.prog w K mg base "_law_draws" 1 R_law_draws := fn_wrap (PySem.W.mg_of X G a19) b19 F19.kp (ok_law_draws F19 B KC KL XF )
  have G_law_is_text : Fn l.prog w K mg base "_law_is_text" 1 R_law_is_text := fn_wrap (PySem.W.mg_of X G a20) b20 F20.kp (ok_law_is_text F20 B KC KL XF )
  have G_law_name : Fn l.prog w K mg base "_law_name" 1 R_law_name := fn_wrap (PySem.W.mg_of X G a22) b22 F22.kp (ok_law_name F22 B KC KL XF )
  have G_law_qreach : Fn l.prog w K mg base "_law_qreach" 1 R_law_qreach := fn_wrap (PySem.W.mg_of X G a24) b24 F24.kp (ok_law_qreach F24 B KC KL XF )
  have G_Groups_unite : FnML l.prog w K mg base "Groups" "unite" 2 R_Groups_unite := ⟨⟨C_Groups, f2, _, _, aC_Groups, ⟨pg_Groups, hd_Groups, po_Groups, sa_Groups⟩, ⟨a2, i2, k2⟩, ok_Groups_unite F2 B KC KL XF G_Groups_root, b2⟩⟩
  have G_Groups_indexes : FnML l.prog w K mg base "Groups" "indexes" 2 R_Groups_indexes := ⟨⟨C_Groups, f3, _, _, aC_Groups, ⟨pg_Groups, hd_Groups, po_Groups, sa_Groups⟩, ⟨a3, i3, k3⟩, ok_Groups_indexes F3 B KC KL XF G_Groups_root, b3⟩⟩
  have G_known_values_l : FnO l.prog w K mg base "known_values" 2 R_known_values_l := fn_wrapO (PySem.W.mg_of X G a6) b6 F6.kp (ok_known_values_l F6 B KC KL XF G_links_of_l G_pulled)
  have G_are_names : Fn l.prog w K mg base "are_names" 2 R_are_names := fn_wrap (PySem.W.mg_of X G a15) b15 F15.kp (ok_are_names F15 B KC KL XF G_is_name)
  have G_law_is_texts : Fn l.prog w K mg base "_law_is_texts" 2 R_law_is_texts := fn_wrap (PySem.W.mg_of X G a21) b21 F21.kp (ok_law_is_texts F21 B KC KL XF G_law_is_text)
  have G_law_qcircuit : Fn l.prog w K mg base "_law_qcircuit" 2 R_law_qcircuit := fn_wrap (PySem.W.mg_of X G a23) b23 F23.kp (ok_law_qcircuit F23 B KC KL XF G_law_draws G_law_name)
  have G_law_qnext : Fn l.prog w K mg base "_law_qnext" 2 R_law_qnext := fn_wrap (PySem.W.mg_of X G a25) b25 F25.kp (ok_law_qnext F25 B KC KL XF G_law_qreach)
  have G_device_groups : FnO l.prog w K mg base "device_groups" 3 R_device_groups := fn_wrapO (PySem.W.mg_of X G a7) b7 F7.kp (ok_device_groups F7 B KC KL XF G_Groups_init G_Groups_root G_Groups_unite)
  have G_Circuit_init : FnI l.prog w K mg base "Circuit" 3 R_Circuit_init := ⟨⟨C_Circuit, f16, _, _, aC_Circuit, PySem.W.mg_of X G aC_Circuit, ⟨mk_Circuit, a16, i16, kc_Circuit⟩, ok_Circuit_init F16 B KC KL XF G_are_names G_is_device G_is_net_count, b16⟩⟩
  have G_law_qsettle : Fn l.prog w K mg base "_law_qsettle" 3 R_law_qsettle := fn_wrap (PySem.W.mg_of X G a26) b26 F26.kp (ok_law_qsettle F26 B KC KL XF G_law_qnext)
  have G_settle : Fn l.prog w K mg base "settle" 4 R_settle := fn_wrap (PySem.W.mg_of X G a9) b9 F9.kp (ok_settle F9 B KC KL XF G_device_groups G_indexes_by_gate G_known_values_l)
  have G_law_values : Fn l.prog w K mg base "_law_values" 4 R_law_values := fn_wrap (PySem.W.mg_of X G a28) b28 F28.kp (ok_law_values F28 B KC KL XF G_law_qsettle)
  have GX_table : FnXG l.prog w K mg base "table" 5 RX_table := ⟨⟨_, _, _, okX_table F11 B KC KL XF GE_UnknownName, PySem.W.mg_of X G a11, F11.kp, b11⟩⟩
  have G_table : Fn l.prog w K mg base "table" 5 R_table := fn_wrap (PySem.W.mg_of X G a11) b11 F11.kp (ok_table F11 B KC KL XF G_combinations_of G_settle)
  have G_law_unknown : Fn l.prog w K mg base "_law_unknown" 6 R_law_unknown := fn_wrap (PySem.W.mg_of X G a27) b27 F27.kp (ok_law_unknown F27 B KC KL XF GX_table)
  exact ok_law F29 B KC KL XF G_Circuit_init G_law_cell G_law_draws G_law_is_texts G_law_qcircuit G_law_unknown G_law_values G_table
end DL
open PySem PySem.W PyProof.Rows
local macro_rules | `(tactic| walk_at "kd") => `(tactic| first | exact DL.kd_int | exact DL.kd_bl | exact DL.kd_str | (refine' DL.kd_tup ?l ?c ?e ?z ?r; (case l => k_is); (case c => rfl); (case e => rfl); (case z => decide); (case r => walk_at "kds")))
local macro_rules | `(tactic| walk_at "kds") => `(tactic| first | exact DL.kds_nil | (refine' DL.kds_cons ?a ?b; (case a => walk_at "kd"); (case b => walk_at "kds")))
set_option maxRecDepth 100000 in
set_option maxHeartbeats 0 in
theorem PySem.Challenge.cw_reticle_k88_tables_of_circuits_holds : PySem.Challenge.rw_reticle_k88_tables_of_circuits.Holds := by
  w_on; o_law; k_head; (case hw => w_witness2)
  k_fill
  refine DL.walk_law (l := PySem.Challenge.rw_reticle_k88_tables_of_circuits) (k := 7) rfl ⟨rfl, by decide, by decide⟩ rfl (fun w h Y => PySem.W.kIn_of Y) ?F
  case F =>
    intro w mg fa h KX G hmg
    refine' DL.all_mk KX G hmg ?aC_Groups ?pg_Groups ?hd_Groups ?po_Groups ?sa_Groups ?ha_Groups ?hn_Groups ?htk_Groups ?hm_Groups ?kc_Groups ?mk_Groups ?na0_Groups ?aC_Circuit ?pg_Circuit ?hd_Circuit ?po_Circuit ?sa_Circuit ?ha_Circuit ?hn_Circuit ?htk_Circuit ?hm_Circuit ?kc_Circuit ?mk_Circuit ?na0_Circuit ?na1_Circuit ?na2_Circuit ?na3_Circuit ?a0 ?i0 ?l0 ?c0 ?k0 ?a1 ?i1 ?l1 ?c1 ?k1 ?a2 ?i2 ?l2 ?c2 ?k2 ?a3 ?i3 ?l3 ?c3 ?k3 ?a4 ?l4 ?c4 ?k4 ?a5 ?l5 ?c5 ?k5 ?a6 ?l6 ?c6 ?k6 ?a7 ?l7 ?c7 ?k7 ?a8 ?l8 ?c8 ?k8 ?a9 ?l9 ?c9 ?k9 ?a10 ?l10 ?c10 ?k10 ?a11 ?l11 ?c11 ?k11 ?a12 ?l12 ?c12 ?k12 ?a13 ?l13 ?c13 ?k13 ?a14 ?l14 ?c14 ?k14 ?a15 ?l15 ?c15 ?k15 ?a16 ?i16 ?l16 ?c16 ?k16 ?a17 ?i17 ?l17 ?c17 ?k17 ?a18 ?l18 ?c18 ?k18 ?a19 ?l19 ?c19 ?k19 ?a20 ?l20 ?c20 ?k20 ?a21 ?l21 ?c21 ?k21 ?a22 ?l22 ?c22 ?k22 ?a23 ?l23 ?c23 ?k23 ?a24 ?l24 ?c24 ?k24 ?a25 ?l25 ?c25 ?k25 ?a26 ?l26 ?c26 ?k26 ?a27 ?l27 ?c27 ?k27 ?a28 ?l28 ?c28 ?k28 ?a29 ?l29 ?c29 ?k29 ?z_all ?z_dict ?z_enumerate ?z_int ?z_isinstance ?z_len ?z_list ?z_max ?z_min ?z_range ?z_set ?z_sorted ?z_str ?z_tuple ?z_zip ?y_KINDS ?w_KINDS ?y_MOST_CHARACTERS ?w_MOST_CHARACTERS ?y_MOST_DEVICES ?w_MOST_DEVICES ?y_MOST_NETS ?w_MOST_NETS ?y_PERHAPS ?w_PERHAPS ?y_SUPPLIES ?w_SUPPLIES ?y_SURE ?w_SURE ?ea_UnknownName ?es_UnknownName ?ed_UnknownName ?et_UnknownName ?e4_m2 ?xga_UnknownName ?xgg_UnknownName ?xno0_UnknownName ?lcl_UnknownName ?lox_UnknownName ?lsa_UnknownName ?lkp_UnknownName ?lin_UnknownName ?lti_UnknownName ?lfn_UnknownName ?lcd_UnknownName ?lce_UnknownName ?lco_UnknownName ?lvs_UnknownName ?lfi_UnknownName ?lto_UnknownName ?lsu_UnknownName ?lmr_UnknownName ?lop_UnknownName ?lii_UnknownName ?lve_UnknownName ?lf1_UnknownName
    (case aC_Groups => k_is); (case pg_Groups => k_is); (case hd_Groups => k_is); (case po_Groups => k_is); (case sa_Groups => k_is); (case ha_Groups => k_is); (case hn_Groups => k_is); (case htk_Groups => k_is)
    (case hm_Groups => k_is); (case kc_Groups => k_is); (case mk_Groups => k_is); (case na0_Groups => k_is); (case aC_Circuit => k_is); (case pg_Circuit => k_is); (case hd_Circuit => k_is); (case po_Circuit => k_is)
    (case sa_Circuit => k_is); (case ha_Circuit => k_is); (case hn_Circuit => k_is); (case htk_Circuit => k_is); (case hm_Circuit => k_is); (case kc_Circuit => k_is); (case mk_Circuit => k_is); (case na0_Circuit => k_is)
    (case na1_Circuit => k_is); (case na2_Circuit => k_is); (case na3_Circuit => k_is); (case a0 => k_is); (case i0 => k_is); (case l0 => k_is); (case c0 => k_is); (case k0 => k_is)
    (case a1 => k_is); (case i1 => k_is); (case l1 => k_is); (case c1 => k_is); (case k1 => k_is); (case a2 => k_is); (case i2 => k_is); (case l2 => k_is)
    (case c2 => k_is); (case k2 => k_is); (case a3 => k_is); (case i3 => k_is); (case l3 => k_is); (case c3 => k_is); (case k3 => k_is); (case a4 => k_is)
    (case l4 => k_is); (case c4 => k_is); (case k4 => k_is); (case a5 => k_is); (case l5 => k_is); (case c5 => k_is); (case k5 => k_is); (case a6 => k_is)
    (case l6 => k_is); (case c6 => k_is); (case k6 => k_is); (case a7 => k_is); (case l7 => k_is); (case c7 => k_is); (case k7 => k_is); (case a8 => k_is)
    (case l8 => k_is); (case c8 => k_is); (case k8 => k_is); (case a9 => k_is); (case l9 => k_is); (case c9 => k_is); (case k9 => k_is); (case a10 => k_is)
    (case l10 => k_is); (case c10 => k_is); (case k10 => k_is); (case a11 => k_is); (case l11 => k_is); (case c11 => k_is); (case k11 => k_is); (case a12 => k_is)
    (case l12 => k_is); (case c12 => k_is); (case k12 => k_is); (case a13 => k_is); (case l13 => k_is); (case c13 => k_is); (case k13 => k_is); (case a14 => k_is)
    (case l14 => k_is); (case c14 => k_is); (case k14 => k_is); (case a15 => k_is); (case l15 => k_is); (case c15 => k_is); (case k15 => k_is); (case a16 => k_is)
    (case i16 => k_is); (case l16 => k_is); (case c16 => k_is); (case k16 => k_is); (case a17 => k_is); (case i17 => k_is); (case l17 => k_is); (case c17 => k_is)
    (case k17 => k_is); (case a18 => k_is); (case l18 => k_is); (case c18 => k_is); (case k18 => k_is); (case a19 => k_is); (case l19 => k_is); (case c19 => k_is)
    (case k19 => k_is); (case a20 => k_is); (case l20 => k_is); (case c20 => k_is); (case k20 => k_is); (case a21 => k_is); (case l21 => k_is); (case c21 => k_is)
    (case k21 => k_is); (case a22 => k_is); (case l22 => k_is); (case c22 => k_is); (case k22 => k_is); (case a23 => k_is); (case l23 => k_is); (case c23 => k_is)
    (case k23 => k_is); (case a24 => k_is); (case l24 => k_is); (case c24 => k_is); (case k24 => k_is); (case a25 => k_is); (case l25 => k_is); (case c25 => k_is)
    (case k25 => k_is); (case a26 => k_is); (case l26 => k_is); (case c26 => k_is); (case k26 => k_is); (case a27 => k_is); (case l27 => k_is); (case c27 => k_is)
    (case k27 => k_is); (case a28 => k_is); (case l28 => k_is); (case c28 => k_is); (case k28 => k_is); (case a29 => k_is); (case l29 => k_is); (case c29 => k_is)
    (case k29 => k_is); (case z_all => k_is); (case z_dict => k_is); (case z_enumerate => k_is); (case z_int => k_is); (case z_isinstance => k_is); (case z_len => k_is); (case z_list => k_is)
    (case z_max => k_is); (case z_min => k_is); (case z_range => k_is); (case z_set => k_is); (case z_sorted => k_is); (case z_str => k_is); (case z_tuple => k_is); (case z_zip => k_is)
    (case y_KINDS => k_is); (case w_KINDS => walk_at "kd"); (case y_MOST_CHARACTERS => k_is); (case w_MOST_CHARACTERS => walk_at "kd"); (case y_MOST_DEVICES => k_is); (case w_MOST_DEVICES => walk_at "kd"); (case y_MOST_NETS => k_is); (case w_MOST_NETS => walk_at "kd")
    (case y_PERHAPS => k_is); (case w_PERHAPS => walk_at "kd"); (case y_SUPPLIES => k_is); (case w_SUPPLIES => walk_at "kd"); (case y_SURE => k_is); (case w_SURE => walk_at "kd"); (case ea_UnknownName => k_is); (case es_UnknownName => k_is)
    (case ed_UnknownName => k_is); (case et_UnknownName => k_is); (case e4_m2 => k_is); (case xga_UnknownName => k_is); (case xgg_UnknownName => k_is); (case xno0_UnknownName => k_is); (case lcl_UnknownName => k_is); (case lox_UnknownName => rfl)
    (case lsa_UnknownName => k_is); (case lkp_UnknownName => k_is); (case lin_UnknownName => k_is); (case lti_UnknownName => k_is); (case lfn_UnknownName => k_is); (case lcd_UnknownName => k_is); (case lce_UnknownName => k_is); (case lco_UnknownName => k_is)
    (case lvs_UnknownName => rfl); (case lfi_UnknownName => first | rfl | decide +kernel); (case lto_UnknownName => first | rfl | decide +kernel); (case lsu_UnknownName => k_is); (case lmr_UnknownName => k_is); (case lop_UnknownName => k_is); (case lii_UnknownName => first | ks_is | kernel_rfl | decide +kernel); (case lve_UnknownName => k_is)
    (case lf1_UnknownName => k_is)
