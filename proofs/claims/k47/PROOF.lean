import PyProof.Rows.All
import Wide.All
import OpenK.AllK
import Wide.FinOn
import HandS.ForMost
import HandS.Walk
import HandS.IsInst
import HandS.Style
import HandS.Defaults
import HandS.NoneIn
import PySem.Challenge.RW_reticle_k47_written_decks
import HandS.SetKeys
import HandS.SortRule
import HandS.SortInts
import HandS.More
import KE.KDictCopyH
import KE.KDictSum
import HandS.SetFor
import HandS.Flow
import HandS.SortKw
import HandS.ExcValue
import HandS.Deep
import KE.SortKeyHeap
import HandS.Strs
import KE.KDictList
import PyProof.Rows.TupTab
import HandS.TupLen
import HandS.Codes
import KE.SortData
import KE.KDictPairs
import HandS.TupAny
import HandS.DictComp
import PyProof.AutoSeq1
import HandS.Conv
import HandS.SlotsOwn
import HandS.WordsExc
import HandS.ExcIs
import HandS.Small
import HandS.FStr
import PyProof.EnumMake
import PyProof.Draws
import KE.GoesMore
import HandS.DictTup
import KE.DatumOrd
import HandS.Text
import HandS.Property
import PyProof.Rows.Range3
import KE.GoesEnumKw
import KE.GoesEnum
import HandS.Star
import HandS.WordsDict
import HandS.RaiseMore
import HandS.CallLocal
import KE.KIndexOf
import HandS.Call
import KE.KExcSuper
import HandS.NestedK
import HandS.ExcInit
import HandS.ExcField
import HandS.ClsMeth
import HandS.ExcCtx
import HandS.HotCalls
import HandS.ExcInitHot
set_option Elab.async false
set_option linter.all false
set_option maxRecDepth 100000
set_option maxHeartbeats 4000000
namespace DL
open PySem PySem.Spec L2
inductive D where
  | non | bl (b : Bool) | int (i : Int) | str (x : Str) | ty (n : String)
  | lst (xs : List D) | tup (xs : List D)
  | dk (ks : List Key) (ds : List D) | dt (ks : List (List Key)) (ds : List D)
  | obj (cn : Str) (ns : List Str) (ds : List D)
  /-- what stands at a place -/
  | ad (a : Addr)
  /-- a tuple that is known to have no dict -/
  | ptp (xs : List D)
  /-- a tuple that is known to be no constant -/
  | etp (xs : List D)
  /-- an exception of an own class: where it is, where its dict is -/
  | exc (a x : Addr) (ns : List Str) (ds : List D)
mutual
def DR (K : PySem.W.Frag) (H : Hp) : D → V → Prop
  | .non, v => v = .non
  | .bl b, v => v = .bl b
  | .int i, v => v = .int i
  | .str x, v => v = .str x
  | .ty n, v => v = .ty n
  | .lst ds, v => ∃ a vs, v = .ref a ∧ SqL K H a vs ∧ DRs K H ds vs
  | .tup ds, v => ∃ a vs, v = .ref a ∧ SqT K H a vs ∧ DRs K H ds vs
  | .dk ks ds, v => ∃ a vs, v = .ref a ∧ Rd H a (.dK (ks.zip vs)) ∧ ks.length = vs.length ∧ DRs K H ds vs
  | .dt ks ds, v => ∃ a vs, v = .ref a ∧ Rd H a (.dT (ks.zip vs)) ∧ ks.length = vs.length ∧ DRs K H ds vs
  | .obj cn ns ds, v => ∃ a C dx vs, v = .ref a ∧ PySem.W.nsIn K mainGlobals cn = some (some (.ref C)) ∧ H a = some (.ins C dx (ns.zip vs)) ∧ ns.length = vs.length ∧ DRs K H ds vs
  | .ad a, v => v = .ref a
  | .ptp ds, v => ∃ a o vs, v = .ref a ∧ H a = some (.frz o (.tup vs)) ∧ o.dict = none ∧ DRs K H ds vs
  | .etp ds, v => ∃ a vs, v = .ref a ∧ H a = some (.tup vs) ∧ DRs K H ds vs
  | .exc a x ns ds, v => v = .ref a ∧ ∃ vs, H x = some (.xd (ns.zip vs)) ∧ ns.length = vs.length ∧ DRs K H ds vs
def DRs (K : PySem.W.Frag) (H : Hp) : List D → List V → Prop
  | [], vs => vs = []
  | d :: ds, vs => ∃ v r, vs = v :: r ∧ DR K H d v ∧ DRs K H ds r
end
theorem Same.seqT {K : PySem.W.Frag} {H H' : Hp} {a : Addr} {xs : List V} (e : Same H H') (h : SqT K H a xs) : SqT K H' a xs := by
  rcases h with (h | ⟨o, h⟩) | h
  · exact .inl (.inl (e _ _ h))
  · exact .inl (.inr ⟨o, e _ _ h⟩)
  · exact .inr h
theorem Same.rd {H H' : Hp} {a : Addr} {u : HO} (e : Same H H') (h : Rd H a u) : Rd H' a u := by
  rcases h with h | ⟨o, h⟩
  · exact .inl (e _ _ h)
  · exact .inr ⟨o, e _ _ h⟩
mutual
theorem DR.mono {K : PySem.W.Frag} {H H' : Hp} (e : Same H H') : ∀ (d : D) (v : V), DR K H d v → DR K H' d v
  | .non, v, h => h
  | .bl _, v, h => h
  | .int _, v, h => h
  | .str _, v, h => h
  | .ty _, v, h => h
  | .lst ds, v, h => by
    obtain ⟨a, vs, h1, h2, h3⟩ := h
    exact ⟨a, vs, h1, e.seq h2, DRs.mono e ds vs h3⟩
  | .tup ds, v, h => by
    obtain ⟨a, vs, h1, h2, h3⟩ := h
    exact ⟨a, vs, h1, Same.seqT e h2, DRs.mono e ds vs h3⟩
  | .dk ks ds, v, h => by
    obtain ⟨a, vs, h1, h2, h4, h3⟩ := h
    exact ⟨a, vs, h1, Same.rd e h2, h4, DRs.mono e ds vs h3⟩
  | .dt ks ds, v, h => by
    obtain ⟨a, vs, h1, h2, h4, h3⟩ := h
    exact ⟨a, vs, h1, Same.rd e h2, h4, DRs.mono e ds vs h3⟩
  | .obj cn ns ds, v, h => by
    obtain ⟨a, C, dx, vs, h1, hn, h2, h4, h3⟩ := h
    exact ⟨a, C, dx, vs, h1, hn, e _ _ h2, h4, DRs.mono e ds vs h3⟩
  | .ad _, v, h => h
  | .ptp ds, v, h => by
    obtain ⟨a, o, vs, h1, h2, h4, h3⟩ := h
    exact ⟨a, o, vs, h1, e _ _ h2, h4, DRs.mono e ds vs h3⟩
  | .etp ds, v, h => by
    obtain ⟨a, vs, h1, h2, h3⟩ := h
    exact ⟨a, vs, h1, e _ _ h2, DRs.mono e ds vs h3⟩
  | .exc a x ns ds, v, h => by
    obtain ⟨h1, vs, h2, h4, h3⟩ := h
    exact ⟨h1, vs, e _ _ h2, h4, DRs.mono e ds vs h3⟩
theorem DRs.mono {K : PySem.W.Frag} {H H' : Hp} (e : Same H H') : ∀ (ds : List D) (vs : List V), DRs K H ds vs → DRs K H' ds vs
  | [], vs, h => h
  | d :: ds, vs, h => by
    obtain ⟨v, r, h1, h2, h3⟩ := h
    exact ⟨v, r, h1, DR.mono e d v h2, DRs.mono e ds r h3⟩
end
theorem DRs.length {K : PySem.W.Frag} {H : Hp} : ∀ {ds : List D} {vs : List V}, DRs K H ds vs → ds.length = vs.length
  | [], vs, h => by cases (show vs = [] from h); rfl
  | d :: ds, vs, h => by
    obtain ⟨v, r, rfl, _, h3⟩ := h
    simp [DRs.length h3]
theorem DRs.get {K : PySem.W.Frag} {H : Hp} : ∀ {ds : List D} {vs : List V} {i : Nat} {d : D}, DRs K H ds vs → ds[i]? = some d → ∃ v, vs[i]? = some v ∧ DR K H d v
  | [], vs, i, d, h, e => by simp at e
  | d' :: ds, vs, 0, d, h, e => by
    obtain ⟨v, r, rfl, h2, h3⟩ := h
    simp at e
    subst e
    exact ⟨v, by simp, h2⟩
  | d' :: ds, vs, i + 1, d, h, e => by
    obtain ⟨v, r, rfl, h2, h3⟩ := h
    obtain ⟨w, h4, h5⟩ := DRs.get (i := i) (d := d) h3 (by simpa using e)
    exact ⟨w, by simpa using h4, h5⟩
theorem DRs.app {K : PySem.W.Frag} {H : Hp} : ∀ {ds es : List D} {vs ws : List V}, DRs K H ds vs → DRs K H es ws → DRs K H (ds ++ es) (vs ++ ws)
  | [], es, vs, ws, h, g => by cases (show vs = [] from h); exact g
  | d :: ds, es, vs, ws, h, g => by
    obtain ⟨v, r, rfl, h2, h3⟩ := h
    exact ⟨v, r ++ ws, rfl, h2, DRs.app h3 g⟩
theorem DRs.one {K : PySem.W.Frag} {H : Hp} {d : D} {v : V} (h : DR K H d v) : DRs K H [d] [v] := ⟨v, [], rfl, h, rfl⟩
theorem DRs.set {K : PySem.W.Frag} {H : Hp} {d : D} {v : V} (g : DR K H d v) : ∀ {ds : List D} {vs : List V} (i : Nat), DRs K H ds vs → DRs K H (ds.set i d) (vs.set i v)
  | [], vs, i, h => by cases (show vs = [] from h); exact rfl
  | d' :: ds, vs, 0, h => by
    obtain ⟨v', r, rfl, h2, h3⟩ := h
    exact ⟨v, r, rfl, g, h3⟩
  | d' :: ds, vs, i + 1, h => by
    obtain ⟨v', r, rfl, h2, h3⟩ := h
    exact ⟨v', r.set i v, rfl, h2, DRs.set g i h3⟩
theorem DRs.take {K : PySem.W.Frag} {H : Hp} : ∀ {ds : List D} {vs : List V} (n : Nat), DRs K H ds vs → DRs K H (ds.take n) (vs.take n)
  | ds, vs, 0, h => by simp [DRs]
  | [], vs, n + 1, h => by cases (show vs = [] from h); exact rfl
  | d :: ds, vs, n + 1, h => by
    obtain ⟨v, r, rfl, h2, h3⟩ := h
    exact ⟨v, r.take n, rfl, h2, DRs.take n h3⟩
theorem DRs.drop {K : PySem.W.Frag} {H : Hp} : ∀ {ds : List D} {vs : List V} (n : Nat), DRs K H ds vs → DRs K H (ds.drop n) (vs.drop n)
  | ds, vs, 0, h => by simpa using h
  | [], vs, n + 1, h => by cases (show vs = [] from h); exact rfl
  | d :: ds, vs, n + 1, h => by
    obtain ⟨v, r, rfl, h2, h3⟩ := h
    exact DRs.drop (ds := ds) (vs := r) n h3
theorem DRs.ints {K : PySem.W.Frag} {H : Hp} : ∀ {ns : List Int} {vs : List V}, DRs K H (ns.map D.int) vs → vs = ns.map V.int
  | [], vs, h => h
  | n :: ns, vs, h => by
    obtain ⟨v, r, rfl, h2, h3⟩ := h
    cases (show v = .int n from h2)
    rw [DRs.ints h3]; rfl
theorem DRs.ofInts {K : PySem.W.Frag} {H : Hp} : ∀ (ns : List Int), DRs K H (ns.map D.int) (ns.map V.int)
  | [] => rfl
  | n :: ns => ⟨.int n, ns.map V.int, rfl, rfl, DRs.ofInts ns⟩
theorem DRs.bls {K : PySem.W.Frag} {H : Hp} : ∀ {ns : List Bool} {vs : List V}, DRs K H (ns.map D.bl) vs → vs = ns.map V.bl
  | [], vs, h => h
  | n :: ns, vs, h => by
    obtain ⟨v, r, rfl, h2, h3⟩ := h
    cases (show v = .bl n from h2)
    rw [DRs.bls h3]; rfl
theorem DRs.strs {K : PySem.W.Frag} {H : Hp} : ∀ {ns : List Str} {vs : List V}, DRs K H (ns.map D.str) vs → vs = ns.map V.str
  | [], vs, h => h
  | n :: ns, vs, h => by
    obtain ⟨v, r, rfl, h2, h3⟩ := h
    cases (show v = .str n from h2)
    rw [DRs.strs h3]; rfl
/-- what may be nobody else's -/
def NT : HO → Prop
  | .tup _ => False
  | _ => True
structure JH (B0 B H0 H : Hp) : Prop where
  s0 : Same B0 H0
  sh : Same H0 H
  sB : Same B H
  fr : ∀ a o, B a = some o → NT o → B0 a = none → H0 a = none
theorem JH.refl {H0 H : Hp} (h : Same H0 H) : JH H0 H H0 H := ⟨Same.refl _, h, Same.refl _, fun _ _ _ _ h => h⟩
theorem JH.trans {B0 B H0 H G0 G : Hp} (a : JH B0 B H0 H) (b : JH H0 H G0 G) : JH B0 B G0 G :=
  ⟨a.s0.trans b.s0, b.sh, a.sB.trans b.sB, fun x o h n h' => b.fr x o (a.sB x o h) n (a.fr x o h n h')⟩
/-- a new thing that is shared at once -/
theorem JH.new {H0 H : Hp} {p : Addr} {o : HO} (h : Same H0 H) (n : H p = none) : JH H0 H (upd H0 p o) (upd H p o) := by
  have n0 : H0 p = none := h.free n
  refine ⟨fun b u e => ?_, fun b u e => ?_, fun b u e => ?_, fun a u e _ e' => ?_⟩
  · rw [upd_ne (ne_of_none e n0)]; exact e
  · by_cases hb : b = p
    · subst hb; rw [upd_same] at e ⊢; exact e
    · rw [upd_ne hb] at e ⊢; exact h b u e
  · rw [upd_ne (ne_of_none e n)]; exact e
  · rw [upd_ne (ne_of_none e n)]; exact e'
/-- a new thing that is nobody else's -/
theorem JH.own {H0 H : Hp} {p : Addr} {o : HO} (h : Same H0 H) (n : H p = none) : JH H0 H H0 (upd H p o) := by
  have n0 : H0 p = none := h.free n
  refine ⟨Same.refl _, fun b u e => ?_, fun b u e => ?_, fun a u e _ e' => e'⟩
  · rw [upd_ne (ne_of_none e n0)]; exact h b u e
  · rw [upd_ne (ne_of_none e n)]; exact e
/-- what is nobody else's: a list, a dict -/
inductive OC where
  | lst (ds : List D) | dk (ks : List Key) (ds : List D) | dt (ks : List (List Key)) (ds : List D)
  /-- .. while a loop walks it -/
  | fk (ks : List Key) (ds : List D) | ft (ks : List (List Key)) (ds : List D)
  /-- an instance of a class of the text -/
  | ins (cn : Str) (ns : List Str) (ds : List D)
def OCR (K : PySem.W.Frag) (H0 : Hp) : OC → HO → Prop
  | .lst ds, o => ∃ vs, o = .lst vs ∧ DRs K H0 ds vs
  | .dk ks ds, o => ∃ vs, o = .dK (ks.zip vs) ∧ ks.length = vs.length ∧ DRs K H0 ds vs
  | .dt ks ds, o => ∃ vs, o = .dT (ks.zip vs) ∧ ks.length = vs.length ∧ DRs K H0 ds vs
  | .fk ks ds, o => ∃ vs od, o = .frz od (.dK (ks.zip vs)) ∧ ks.length = vs.length ∧ DRs K H0 ds vs
  | .ft ks ds, o => ∃ vs od, o = .frz od (.dT (ks.zip vs)) ∧ ks.length = vs.length ∧ DRs K H0 ds vs
  | .ins cn ns ds, o => ∃ vs C dx, o = .ins C dx (ns.zip vs) ∧ PySem.W.nsIn K mainGlobals cn = some (some (.ref C)) ∧ ns.length = vs.length ∧ DRs K H0 ds vs
theorem OCR.nt {K : PySem.W.Frag} {H0 : Hp} : ∀ {c : OC} {o : HO}, OCR K H0 c o → NT o
  | .lst _, _, ⟨vs, h1, h2⟩ => by subst h1; trivial
  | .dk _ _, _, ⟨vs, h1, h3, h2⟩ => by subst h1; trivial
  | .dt _ _, _, ⟨vs, h1, h3, h2⟩ => by subst h1; trivial
  | .fk _ _, _, ⟨vs, od, h1, h3, h2⟩ => by subst h1; trivial
  | .ft _ _, _, ⟨vs, od, h1, h3, h2⟩ => by subst h1; trivial
  | .ins _ _ _, _, ⟨vs, C, dx, h1, hn, h3, h2⟩ => by subst h1; trivial
theorem OCR.mono {K : PySem.W.Frag} {H0 H0' : Hp} (e : Same H0 H0') : ∀ {c : OC} {o : HO}, OCR K H0 c o → OCR K H0' c o
  | .lst _, _, ⟨vs, h1, h2⟩ => ⟨vs, h1, DRs.mono e _ _ h2⟩
  | .dk _ _, _, ⟨vs, h1, h3, h2⟩ => ⟨vs, h1, h3, DRs.mono e _ _ h2⟩
  | .dt _ _, _, ⟨vs, h1, h3, h2⟩ => ⟨vs, h1, h3, DRs.mono e _ _ h2⟩
  | .fk _ _, _, ⟨vs, od, h1, h3, h2⟩ => ⟨vs, od, h1, h3, DRs.mono e _ _ h2⟩
  | .ft _ _, _, ⟨vs, od, h1, h3, h2⟩ => ⟨vs, od, h1, h3, DRs.mono e _ _ h2⟩
  | .ins _ _ _, _, ⟨vs, C, dx, h1, hn, h3, h2⟩ => ⟨vs, C, dx, h1, hn, h3, DRs.mono e _ _ h2⟩
def OC.d : OC → D
  | .lst ds => .lst ds
  | .dk ks ds => .dk ks ds
  | .dt ks ds => .dt ks ds
  | .fk ks ds => .dk ks ds
  | .ft ks ds => .dt ks ds
  | .ins cn ns ds => .obj cn ns ds
theorem OCR.dr {K : PySem.W.Frag} {H0 : Hp} {c : OC} {a : Addr} {o : HO} (n : H0 a = none) (h : OCR K H0 c o) : DR K (upd H0 a o) c.d (.ref a) := by
  have s0 : Same H0 (upd H0 a o) := fun b u e => by
    rw [upd_ne (fun z => by subst z; rw [n] at e; cases e)]; exact e
  cases c with
  | lst ds => obtain ⟨vs, rfl, r⟩ := h; exact ⟨a, vs, rfl, SqL.of upd_same, DRs.mono s0 _ _ r⟩
  | dk ks ds => obtain ⟨vs, rfl, l, r⟩ := h; exact ⟨a, vs, rfl, .inl upd_same, l, DRs.mono s0 _ _ r⟩
  | dt ks ds => obtain ⟨vs, rfl, l, r⟩ := h; exact ⟨a, vs, rfl, .inl upd_same, l, DRs.mono s0 _ _ r⟩
  | fk ks ds => obtain ⟨vs, od, rfl, l, r⟩ := h; exact ⟨a, vs, rfl, .inr ⟨od, upd_same⟩, l, DRs.mono s0 _ _ r⟩
  | ft ks ds => obtain ⟨vs, od, rfl, l, r⟩ := h; exact ⟨a, vs, rfl, .inr ⟨od, upd_same⟩, l, DRs.mono s0 _ _ r⟩
  | ins cn ns ds => obtain ⟨vs, C, dx, rfl, hn, l, r⟩ := h; exact ⟨a, C, dx, vs, rfl, hn, upd_same, l, DRs.mono s0 _ _ r⟩
inductive Sl where
  | no | sh (d : D) | ow (c : OC)
  /-- what is at d, and things of its own at places that are told -/
  | ox (cs : List (Addr × OC)) (d : D)
/-- a thing of its own stands at a place -/
structure CellR (K : PySem.W.Frag) (B H0 H : Hp) (a : Addr) (c : OC) : Prop where
  ex : ∃ o, H a = some o ∧ H0 a = none ∧ B a = none ∧ OCR K H0 c o
def SlR (K : PySem.W.Frag) (B H0 H : Hp) : Sl → Option V → Prop
  | .no, _ => True
  | .sh d, ov => ∃ v, ov = some v ∧ DR K H0 d v
  | .ow c, ov => ∃ a o, ov = some (.ref a) ∧ H a = some o ∧ H0 a = none ∧ B a = none ∧ OCR K H0 c o
  | .ox cs d, ov => (∃ v, ov = some v ∧ DR K H0 d v) ∧ (∀ p ∈ cs, CellR K B H0 H p.1 p.2) ∧ (cs.map (·.1)).Nodup
/-- the places of what a slot owns -/
def Owns : Sl → Option V → Addr → Prop
  | .ow _, ov, a => ov = some (.ref a)
  | .ox cs _, _, a => a ∈ cs.map (·.1)
  | _, _, _ => False
abbrev En := List Sl
structure J (K : PySem.W.Frag) (B0 B : Hp) (σ : St) (H0 H : Hp) (ρ : En) : Prop where
  hp : JH B0 B H0 H
  len : σ.length = ρ.length
  sl : ∀ (i : Nat) s ov, ρ[i]? = some s → σ[i]? = some ov → SlR K B H0 H s ov
  dis : ∀ (i j : Nat) s s' ov ov' a, ρ[i]? = some s → ρ[j]? = some s' → σ[i]? = some ov → σ[j]? = some ov' → Owns s ov a → Owns s' ov' a → i = j
section
variable {K : PySem.W.Frag} {B0 B H0 H H0' H' : Hp} {σ σ' : St} {ρ ρ' : En}
theorem J.get (j : J K B0 B σ H0 H ρ) {i : Nat} {s : Sl} (h : ρ[i]? = some s) : ∃ ov, σ[i]? = some ov ∧ SlR K B H0 H s ov := by
  have hi : i < σ.length := by
    have := (List.getElem?_eq_some_iff.mp h).1
    rw [j.len]; exact this
  exact ⟨σ[i], by simp [hi], j.sl i s σ[i] h (by simp [hi])⟩
theorem CellR.grow (g : JH H0 H H0' H') {a : Addr} {c : OC} (h : CellR K B H0 H a c) : CellR K B H0' H' a c := by
  obtain ⟨o, h2, h3, h4, h5⟩ := h
  exact ⟨o, g.sB _ _ h2, g.fr _ _ h2 h5.nt h3, h4, h5.mono g.s0⟩
theorem SlR.grow (g : JH H0 H H0' H') {s : Sl} {ov : Option V} (h : SlR K B H0 H s ov) : SlR K B H0' H' s ov := by
  cases s with
  | no => trivial
  | sh d => obtain ⟨v, h1, h2⟩ := h; exact ⟨v, h1, DR.mono g.s0 _ _ h2⟩
  | ow c => obtain ⟨a, o, h1, h2, h3, h4, h5⟩ := h; exact ⟨a, o, h1, g.sB _ _ h2, g.fr _ _ h2 h5.nt h3, h4, h5.mono g.s0⟩
  | ox cs d => obtain ⟨⟨v, h1, h2⟩, h3, h4⟩ := h; exact ⟨⟨v, h1, DR.mono g.s0 _ _ h2⟩, fun p hp => (h3 p hp).grow g, h4⟩
theorem J.grow (j : J K B0 B σ H0 H ρ) (g : JH H0 H H0' H') : J K B0 B σ H0' H' ρ :=
  ⟨j.hp.trans g, j.len, fun i s ov h1 h2 => (j.sl i s ov h1 h2).grow g, j.dis⟩
theorem J.same (j : J K B0 B σ H0 H ρ) : Same H0 H := j.hp.sh
theorem set_get {α : Type} {l : List α} {i j : Nat} {x y : α} (h : (l.set i x)[j]? = some y) : (j = i ∧ y = x ∧ i < l.length) ∨ (j ≠ i ∧ l[j]? = some y) := by
  by_cases e : i = j
  · subst e
    by_cases hl : i < l.length
    · rw [List.getElem?_set_self hl] at h
      exact .inl ⟨rfl, (Option.some.inj h).symm, hl⟩
    · rw [List.getElem?_eq_none (by simpa using hl)] at h; cases h
  · rw [List.getElem?_set_ne e] at h
    exact .inr ⟨fun z => e z.symm, h⟩
/-- what a slot owns is there, not shared, and new since the base -/
theorem J.own (j : J K B0 B σ H0 H ρ) {i : Nat} {s : Sl} {ov : Option V} {a : Addr} (h : ρ[i]? = some s) (hσ : σ[i]? = some ov) (w : Owns s ov a) : ∃ o, H a = some o ∧ H0 a = none ∧ B a = none := by
  have r := j.sl i s ov h hσ
  cases s with
  | no => cases w
  | sh d => cases w
  | ow c =>
    obtain ⟨b, o, e, h2, h3, h4, _⟩ := r
    cases e.symm.trans (show ov = _ from w)
    exact ⟨o, h2, h3, h4⟩
  | ox cs d =>
    obtain ⟨p, hp, rfl⟩ := List.mem_map.mp (show a ∈ cs.map (·.1) from w)
    obtain ⟨o, h2, h3, h4, _⟩ := (r.2.1 p hp).ex
    exact ⟨o, h2, h3, h4⟩
/-- a slot is changed: the heap stays; what it owns then it owned before -/
theorem J.setTo (j : J K B0 B σ H0 H ρ) {i : Nat} {s : Sl} {ov : Option V} (r : SlR K B H0 H s ov) (n : ∀ a, Owns s ov a → ∀ k s' ov', k ≠ i → ρ[k]? = some s' → σ[k]? = some ov' → ¬ Owns s' ov' a) : J K B0 B (σ.set i ov) H0 H (ρ.set i s) := by
  refine ⟨j.hp, by simp [j.len], fun k s1 ov1 h1 h2 => ?_, fun k l s1 s2 o1 o2 a h1 h2 h3 h4 w1 w2 => ?_⟩
  · rcases set_get h1 with ⟨rfl, rfl, _⟩ | ⟨ne, h1⟩
    · rcases set_get h2 with ⟨_, rfl, _⟩ | ⟨ne, _⟩
      · exact r
      · exact absurd rfl ne
    · rcases set_get h2 with ⟨e, _, _⟩ | ⟨_, h2⟩
      · exact absurd e ne
      · exact j.sl k s1 ov1 h1 h2
  · rcases set_get h1 with ⟨e1, q1, _⟩ | ⟨n1, g1⟩
    · rcases set_get h2 with ⟨e2, _, _⟩ | ⟨n2, g2⟩
      · rw [e1, e2]
      · rcases set_get h3 with ⟨_, q3, _⟩ | ⟨n3, _⟩
        · rw [q1, q3] at w1
          rw [List.getElem?_set_ne (Ne.symm n2)] at h4
          exact absurd w2 (n a w1 l s2 o2 n2 g2 h4)
        · exact absurd e1 n3
    · rcases set_get h2 with ⟨e2, q2, _⟩ | ⟨n2, g2⟩
      · rcases set_get h4 with ⟨_, q4, _⟩ | ⟨n4, _⟩
        · rw [q2, q4] at w2
          rw [List.getElem?_set_ne (Ne.symm n1)] at h3
          exact absurd w1 (n a w2 k s1 o1 n1 g1 h3)
        · exact absurd e2 n4
      · rw [List.getElem?_set_ne (Ne.symm n1)] at h3
        rw [List.getElem?_set_ne (Ne.symm n2)] at h4
        exact j.dis k l s1 s2 o1 o2 a g1 g2 h3 h4 w1 w2
/-- .. and its value too stays -/
theorem J.setSl (j : J K B0 B σ H0 H ρ) {i : Nat} {s : Sl} {ov : Option V} (hσ : σ[i]? = some ov) (r : SlR K B H0 H s ov) (n : ∀ a, Owns s ov a → ∀ k s' ov', k ≠ i → ρ[k]? = some s' → σ[k]? = some ov' → ¬ Owns s' ov' a) : J K B0 B σ H0 H (ρ.set i s) := by
  have q := j.setTo (i := i) r n
  have e : σ.set i ov = σ := by
    refine List.ext_getElem? fun k => ?_
    by_cases hk : i = k
    · subst hk
      rw [hσ, List.getElem?_set_self (List.getElem?_eq_some_iff.mp hσ).1]
    · rw [List.getElem?_set_ne hk]
  rwa [e] at q
theorem J.sub (j : J K B0 B σ H0 H ρ) {i : Nat} {s s0 : Sl} {ov : Option V} (h : ρ[i]? = some s0) (hσ : σ[i]? = some ov) (w : ∀ a, Owns s ov a → Owns s0 ov a) : ∀ a, Owns s ov a → ∀ k s' ov', k ≠ i → ρ[k]? = some s' → σ[k]? = some ov' → ¬ Owns s' ov' a :=
  fun a w1 k s' ov' ne h1 h2 w2 => ne (j.dis k i s' s0 ov' ov a h1 h h2 hσ w2 (w a w1))
theorem Owns.none {s : Sl} {ov : Option V} (h : s = .no ∨ ∃ d, s = .sh d) (a : Addr) : ¬ Owns s ov a := by
  rcases h with rfl | ⟨d, rfl⟩ <;> exact fun w => w
/-- a slot gets a value that is shared -/
theorem J.setSh (j : J K B0 B σ H0 H ρ) {i : Nat} {d : D} {v : V} (h : DR K H0 d v) : J K B0 B (σ.set i (some v)) H0 H (ρ.set i (.sh d)) :=
  j.setTo (s := .sh d) ⟨v, rfl, h⟩ fun a w => w.elim
/-- a slot is forgotten -/
theorem J.drop (j : J K B0 B σ H0 H ρ) (i : Nat) : J K B0 B σ H0 H (ρ.set i .no) := by
  by_cases hi : i < σ.length
  · exact j.setSl (s := .no) (ov := σ[i]) (by simp [hi]) True.intro fun a w => w.elim
  · have e : ρ.set i .no = ρ := List.set_eq_of_length_le (by rw [← j.len]; omega)
    rw [e]; exact j
/-- a slot gets a new thing of its own -/
theorem J.setOwn (j : J K B0 B σ H0 H ρ) {i : Nat} {c : OC} {a : Addr} {o : HO} (h : H a = some o) (h0 : H0 a = none) (hB : B a = none) (n : ∀ (k : Nat) s ov, k ≠ i → ρ[k]? = some s → σ[k]? = some ov → ¬ Owns s ov a) (r : OCR K H0 c o) :
    J K B0 B (σ.set i (some (.ref a))) H0 H (ρ.set i (.ow c)) :=
  j.setTo (s := .ow c) ⟨a, o, rfl, h, h0, hB, r⟩ fun b w k s' ov' ne h1 h2 w2 => by
    cases (show some (V.ref a) = some (.ref b) from w)
    exact n k s' ov' ne h1 h2 w2
theorem upd_keep {H : Hp} {a b : Addr} {o u : HO} (h : H b = some u) (n : b ≠ a) : upd H a o b = some u := by rw [upd_ne n]; exact h
theorem CellR.keep {a b : Addr} {c : OC} {o : HO} (h : CellR K B H0 H b c) (n : b ≠ a) : CellR K B H0 (upd H a o) b c := by
  obtain ⟨u, h1, h2⟩ := h
  exact ⟨u, upd_keep h1 n, h2⟩
/-- what slot i owns at a is changed -/
theorem J.writeAt (j : J K B0 B σ H0 H ρ) {i : Nat} {s s' : Sl} {ov : Option V} {a : Addr} {o : HO} (h : ρ[i]? = some s) (hσ : σ[i]? = some ov) (w : Owns s ov a) (ws : ∀ b, Owns s' ov b ↔ Owns s ov b) (r : SlR K B H0 (upd H a o) s' ov) : J K B0 B σ H0 (upd H a o) (ρ.set i s') := by
  obtain ⟨o', h1, h2, h3⟩ := j.own h hσ w
  have ne : ∀ b u, H0 b = some u → b ≠ a := fun b u e z => by subst z; rw [h2] at e; cases e
  have neB : ∀ b u, B b = some u → b ≠ a := fun b u e z => by subst z; rw [h3] at e; cases e
  refine ⟨⟨j.hp.s0, fun b u e => upd_keep (j.hp.sh b u e) (ne b u e), fun b u e => upd_keep (j.hp.sB b u e) (neB b u e), j.hp.fr⟩, by simp [j.len], fun k s1 ov1 g1 g2 => ?_, fun k l s1 s2 o1 o2 b g1 g2 g3 g4 w1 w2 => ?_⟩
  · rcases set_get g1 with ⟨rfl, rfl, _⟩ | ⟨nk, g1⟩
    · rw [hσ] at g2; cases g2
      exact r
    · have q := j.sl k s1 ov1 g1 g2
      have nb : ∀ b, Owns s1 ov1 b → b ≠ a := fun b w1 z => by
        subst z
        exact nk (j.dis k i s1 s ov1 ov b g1 h g2 hσ w1 w)
      cases s1 with
      | no => trivial
      | sh d => exact q
      | ow c2 =>
        obtain ⟨b, ob, f1, f2, f3, f4, f5⟩ := q
        exact ⟨b, ob, f1, upd_keep f2 (nb b f1), f3, f4, f5⟩
      | ox cs d =>
        obtain ⟨q1, q2, q3⟩ := q
        exact ⟨q1, fun p hp => (q2 p hp).keep (nb p.1 (List.mem_map.mpr ⟨p, hp, rfl⟩)), q3⟩
  · have p : ∀ {m : Nat} {s3 : Sl} {o3 : Option V}, (ρ.set i s')[m]? = some s3 → σ[m]? = some o3 → Owns s3 o3 b → ∃ s4, ρ[m]? = some s4 ∧ Owns s4 o3 b := fun {m s3 o3} g gσ w3 => by
      rcases set_get g with ⟨rfl, rfl, _⟩ | ⟨_, g⟩
      · rw [hσ] at gσ; cases gσ
        exact ⟨s, h, (ws b).mp w3⟩
      · exact ⟨s3, g, w3⟩
    obtain ⟨s5, f1, f2⟩ := p g1 g3 w1
    obtain ⟨s6, f3, f4⟩ := p g2 g4 w2
    exact j.dis k l s5 s6 o1 o2 b f1 f3 g3 g4 f2 f4
/-- what a slot owns is changed -/
theorem J.write (j : J K B0 B σ H0 H ρ) {i : Nat} {c c' : OC} {a : Addr} {o : HO} (h : ρ[i]? = some (.ow c)) (hσ : σ[i]? = some (some (.ref a))) (r : OCR K H0 c' o) : J K B0 B σ H0 (upd H a o) (ρ.set i (.ow c')) := by
  obtain ⟨o', h1, h2, h3⟩ := j.own h hσ (show Owns (.ow c) (some (.ref a)) a from rfl)
  exact j.writeAt h hσ rfl (fun b => Iff.rfl) ⟨a, o, rfl, upd_same, h2, h3, r⟩
/-- what a slot owns at a place is given to all -/
theorem J.shareAt (j : J K B0 B σ H0 H ρ) {i : Nat} {s : Sl} {ov : Option V} {a : Addr} {c : OC} {o : HO} (h : ρ[i]? = some s) (hσ : σ[i]? = some ov) (w : Owns s ov a) (h1 : H a = some o) (h4 : OCR K H0 c o) {s' : Sl}
    (ws : ∀ b, Owns s' ov b → Owns s ov b ∧ b ≠ a) (r : DR K (upd H0 a o) c.d (.ref a) → SlR K B (upd H0 a o) H s' ov) : J K B0 B σ (upd H0 a o) H (ρ.set i s') ∧ Same H0 (upd H0 a o) := by
  obtain ⟨o', h1', h2, h3⟩ := j.own h hσ w
  have ne : ∀ b u, H0 b = some u → b ≠ a := fun b u e z => by subst z; rw [h2] at e; cases e
  have s0 : Same H0 (upd H0 a o) := fun b u e => upd_keep e (ne b u e)
  have dr : DR K (upd H0 a o) c.d (.ref a) := by
    exact OCR.dr h2 h4
  refine ⟨⟨⟨j.hp.s0.trans s0, fun b u e => ?_, j.hp.sB, fun b u e nt e' => ?_⟩, by simp [j.len], fun k s1 ov1 g1 g2 => ?_, fun k l s1 s2 o1 o2 b g1 g2 g3 g4 w1 w2 => ?_⟩, s0⟩
  · by_cases hb : b = a
    · subst hb; rw [upd_same] at e; cases e; exact h1
    · rw [upd_ne hb] at e; exact j.hp.sh b u e
  · rw [upd_ne (fun z => by subst z; rw [h3] at e; cases e)]; exact j.hp.fr b u e nt e'
  · rcases set_get g1 with ⟨rfl, rfl, _⟩ | ⟨nk, g1⟩
    · rw [hσ] at g2; cases g2
      exact r dr
    · have q := j.sl k s1 ov1 g1 g2
      have nb : ∀ b, Owns s1 ov1 b → b ≠ a := fun b w1 z => by
        subst z
        exact nk (j.dis k i s1 s ov1 ov b g1 h g2 hσ w1 w)
      cases s1 with
      | no => trivial
      | sh d => obtain ⟨v, f1, f2⟩ := q; exact ⟨v, f1, DR.mono s0 _ _ f2⟩
      | ow c2 =>
        obtain ⟨b, ob, f1, f2, f3, f4, f5⟩ := q
        exact ⟨b, ob, f1, f2, by rw [upd_ne (nb b f1)]; exact f3, f4, f5.mono s0⟩
      | ox cs d =>
        obtain ⟨⟨v, f1, f2⟩, q2, q3⟩ := q
        refine ⟨⟨v, f1, DR.mono s0 _ _ f2⟩, fun p hp => ?_, q3⟩
        obtain ⟨ob, f2, f3, f4, f5⟩ := (q2 p hp).ex
        exact ⟨ob, f2, by rw [upd_ne (nb p.1 (List.mem_map.mpr ⟨p, hp, rfl⟩))]; exact f3, f4, f5.mono s0⟩
  · have p : ∀ {m : Nat} {s3 : Sl} {o3 : Option V}, (ρ.set i s')[m]? = some s3 → σ[m]? = some o3 → Owns s3 o3 b → ∃ s4, ρ[m]? = some s4 ∧ Owns s4 o3 b := fun {m s3 o3} g gσ w3 => by
      rcases set_get g with ⟨rfl, rfl, _⟩ | ⟨_, g⟩
      · rw [hσ] at gσ; cases gσ
        exact ⟨s, h, (ws b w3).1⟩
      · exact ⟨s3, g, w3⟩
    obtain ⟨s5, f1, f2⟩ := p g1 g3 w1
    obtain ⟨s6, f3, f4⟩ := p g2 g4 w2
    exact j.dis k l s5 s6 o1 o2 b f1 f3 g3 g4 f2 f4
/-- what a slot owns is given to all -/
theorem J.share (j : J K B0 B σ H0 H ρ) {i : Nat} {c : OC} (h : ρ[i]? = some (.ow c)) : ∃ H0', J K B0 B σ H0' H (ρ.set i (.sh c.d)) ∧ Same H0 H0' := by
  obtain ⟨ov, e1, a, o, e2, h1, h2, h3, h4⟩ := j.get h
  subst e2
  exact ⟨_, j.shareAt (s' := .sh c.d) h e1 rfl h1 h4 (fun b w => w.elim) fun r => ⟨_, rfl, r⟩⟩
/-- the shared part as it is now for a new base -/
theorem J.rebase (j : J K B0 B σ H0 H ρ) : J K H0 B σ H0 H ρ := ⟨⟨Same.refl _, j.hp.sh, j.hp.sB, fun _ _ _ _ h => h⟩, j.len, j.sl, j.dis⟩
theorem J.unbase (j : J K B0 B σ H0 H ρ) (j' : J K H0 B σ' H0' H' ρ') : J K B0 B σ' H0' H' ρ' :=
  ⟨⟨j.hp.s0.trans j'.hp.s0, j'.hp.sh, j'.hp.sB, fun a o h n h' => j'.hp.fr a o h n (j.hp.fr a o h n h')⟩, j'.len, j'.sl, j'.dis⟩
theorem CellR.new {a : Addr} {c : OC} {o : HO} (h : H a = some o) (h0 : H0 a = none) (hB : B a = none) (r : OCR K H0 c o) : CellR K B H0 H a c := ⟨o, h, h0, hB, r⟩
theorem J.cell (j : J K B0 B σ H0 H ρ) {i : Nat} {cs : List (Addr × OC)} {d : D} (h : ρ[i]? = some (.ox cs d)) {a : Addr} {c : OC} (m : (a, c) ∈ cs) : ∃ o, H a = some o ∧ H0 a = none ∧ B a = none ∧ OCR K H0 c o := by
  obtain ⟨ov, e1, h1, h2, h3⟩ := j.get h
  exact (h2 _ m).ex
/-- one of the places anew -/
def putC (cs : List (Addr × OC)) (a : Addr) (c : OC) : List (Addr × OC) := cs.map fun p => if p.1 = a then (a, c) else p
theorem putC_fst (cs : List (Addr × OC)) (a : Addr) (c : OC) : (putC cs a c).map (·.1) = cs.map (·.1) := by
  unfold putC
  rw [List.map_map]
  refine List.map_congr_left fun p _ => ?_
  show (if p.1 = a then (a, c) else p).1 = p.1
  split
  · rename_i h; exact h.symm
  · rfl
theorem J.put (j : J K B0 B σ H0 H ρ) {i : Nat} {cs : List (Addr × OC)} {d : D} (h : ρ[i]? = some (.ox cs d)) {a : Addr} {c c' : OC} {o : HO} (m : (a, c) ∈ cs) (r : OCR K H0 c' o) : J K B0 B σ H0 (upd H a o) (ρ.set i (.ox (putC cs a c') d)) := by
  obtain ⟨ov, e1, h1, h2, h3⟩ := j.get h
  obtain ⟨o', f1, f2, f3, f4⟩ := j.cell h m
  refine j.writeAt h e1 (List.mem_map.mpr ⟨_, m, rfl⟩) (fun b => by simp only [Owns, putC_fst]) ⟨h1, fun p hp => ?_, by rw [putC_fst]; exact h3⟩
  obtain ⟨q, hq, e⟩ := List.mem_map.mp hp
  by_cases hqa : q.1 = a
  · rw [if_pos hqa] at e
    subst e
    exact .new upd_same f2 f3 r
  · rw [if_neg hqa] at e
    subst e
    exact (h2 q hq).keep hqa
/-- a new thing more -/
theorem J.more (j : J K B0 B σ H0 H ρ) (g : JH H0 H H0' H') {i : Nat} {cs : List (Addr × OC)} {d : D} {a : Addr} {c : OC} {o : HO} (h : ρ[i]? = some (.ox cs d)) (h1 : H' a = some o) (h0 : H0' a = none) (n : H a = none) (r : OCR K H0' c o) : J K B0 B σ H0' H' (ρ.set i (.ox (cs ++ [(a, c)]) d)) := by
  obtain ⟨ov, e1, f1, f2, f3⟩ := (j.grow g).get h
  have nin : ∀ k s' ov', ρ[k]? = some s' → σ[k]? = some ov' → ¬ Owns s' ov' a := fun k s' ov' h1 h2 w => by
    obtain ⟨o, e, _⟩ := j.own h1 h2 w
    rw [n] at e; cases e
  have nm : a ∉ cs.map (·.1) := fun w => nin i _ ov h e1 w
  refine (j.grow g).setSl (s := .ox (cs ++ [(a, c)]) d) e1 ⟨f1, fun p hp => ?_, ?_⟩ fun b w k s' ov' ne g1 g2 w2 => ?_
  · rcases List.mem_append.mp hp with hp | hp
    · exact f2 p hp
    · rw [List.mem_singleton] at hp; subst hp
      exact .new h1 h0 (j.hp.sB.free n) r
  · rw [List.map_append, List.nodup_append]
    refine ⟨f3, by simp, fun x hx y hy => ?_⟩
    have : y = a := by simpa using hy
    subst this
    exact fun e => nm (e ▸ hx)
  · have w' : b ∈ cs.map (·.1) ∨ b = a := by
      have : b ∈ (cs ++ [(a, c)]).map (·.1) := w
      rw [List.map_append, List.mem_append] at this
      simpa using this
    rcases w' with w' | rfl
    · exact ne (j.dis k i s' _ ov' ov b g1 h g2 e1 w2 w')
    · exact nin k s' ov' g1 g2 w2
end
end DL
namespace DL
open PySem PySem.Spec L2
def RE (X : Cx) (e : Expr) : TE := fun σ H Q => ∃ t, PE X e t ∧ t σ H Q
def RT (X : Cx) (e : Expr) : TT := fun σ H Q => ∃ t, PT X e t ∧ t σ H Q
def RW (X : Cx) (e : Expr) : TT := fun σ H Q => ∃ t, PW X e t ∧ t σ H Q
def RA (X : Cx) (es : List Expr) : TA := fun σ H Q => ∃ t, PA X es t ∧ t σ H Q
def RS (X : Cx) (st : Stmt) : TS := fun D σ H => ∃ t, PS X st t ∧ t D σ H
def RSs (X : Cx) (sts : List Stmt) : TS := fun D σ H => ∃ t, PSs X sts t ∧ t D σ H
def RI (X : Cx) (tg iter : Expr) : TI := fun σ H R => ∃ t, PI X tg iter t ∧ t σ H R
def RG (X : Cx) (tg : Expr) : TG := fun v σ H Q => ∃ t, PG X tg t ∧ t v σ H Q
def RGs (X : Cx) (tg : List Expr) : TGs := fun vs σ H Q => ∃ t, PGs X tg t ∧ t vs σ H Q
section
variable {X : Cx}
theorem pe_star {e} : PE X e (RE X e) := ⟨fun pins s σ H Q I ⟨_, h, q⟩ => h.run pins s σ H Q I q⟩
theorem pt_star {e} : PT X e (RT X e) := ⟨fun pins s σ H Q I ⟨_, h, q⟩ => h.run pins s σ H Q I q⟩
theorem pw_star {e} : PW X e (RW X e) := ⟨fun wh pins s σ H Q I ⟨_, h, q⟩ => h.run wh pins s σ H Q I q⟩
theorem pa_star {es} : PA X es (RA X es) := ⟨fun pos pins s σ H Q I ⟨_, h, q⟩ => h.run pos pins s σ H Q I q⟩
theorem ps_star {st} : PS X st (RS X st) := ⟨fun pins s σ H D I ⟨_, h, q⟩ => h.run pins s σ H D I q⟩
theorem pss_star {st} : PSs X st (RSs X st) := ⟨fun pins s σ H D I ⟨_, h, q⟩ => h.run pins s σ H D I q⟩
theorem pi_star {tg it} : PI X tg it (RI X tg it) := ⟨fun pins s σ H R I ⟨_, h, q⟩ => h.run pins s σ H R I q⟩
theorem pg_star {tg} : PG X tg (RG X tg) := ⟨fun pins s σ H v u Q I r ⟨_, h, q⟩ => h.run pins s σ H v u Q I r q⟩
theorem pgs_star {tg} : PGs X tg (RGs X tg) := ⟨fun pins s σ H v u Q I r ⟨_, h, q⟩ => h.run pins s σ H v u Q I r q⟩
theorem RE.of {e t σ H Q} (h : PE X e t) (q : t σ H Q) : RE X e σ H Q := ⟨t, h, q⟩
theorem RT.of {e t σ H Q} (h : PT X e t) (q : t σ H Q) : RT X e σ H Q := ⟨t, h, q⟩
theorem RA.of {e t σ H Q} (h : PA X e t) (q : t σ H Q) : RA X e σ H Q := ⟨t, h, q⟩
end
def ED (X : Cx) (ρ : En) (e : Expr) (d : D) : Prop := ∀ B0 B σ H0 H (Q : VK), J X.K B0 B σ H0 H ρ → (∀ v H0' H', JH H0 H H0' H' → DR X.K H0' d v → Q v H') → RE X e σ H Q
/-- .. that is new and nobody else's -/
def EO (X : Cx) (ρ : En) (e : Expr) (c : OC) : Prop := ∀ B0 B σ H0 H (Q : VK), J X.K B0 B σ H0 H ρ → (∀ a o H0' H', JH H0 H H0' H' → H' a = some o → H0' a = none → H a = none → OCR X.K H0' c o → Q (.ref a) H') → RE X e σ H Q
def TD (X : Cx) (ρ : En) (e : Expr) (b : Bool) : Prop := ∀ B0 B σ H0 H (Q : Bool → Hp → Prop), J X.K B0 B σ H0 H ρ → (∀ H0' H', JH H0 H H0' H' → Q b H') → RT X e σ H Q
def TW (X : Cx) (ρ : En) (e : Expr) (b : Bool) : Prop := ∀ B0 B σ H0 H (Q : Bool → Hp → Prop), J X.K B0 B σ H0 H ρ → (∀ H0' H', JH H0 H H0' H' → Q b H') → RW X e σ H Q
def AD (X : Cx) (ρ : En) (es : List Expr) (ds : List D) : Prop := ∀ B0 B σ H0 H (Q : List V → Hp → Prop), J X.K B0 B σ H0 H ρ → (∀ vs H0' H', JH H0 H H0' H' → DRs X.K H0' ds vs → Q vs H') → RA X es σ H Q
/-- by values: a binary operation, a call of a built-in -/
def O2 (K : PySem.W.Frag) (r : R2) (d e f : D) : Prop := ∀ H0 H x y (Q : VK), Same H0 H → DR K H0 d x → DR K H0 e y → (∀ v H0' H', JH H0 H H0' H' → DR K H0' f v → Q v H') → r x y H Q
structure B2 (X : Cx) (op : Operator) (d e f : D) : Prop where
  ex : ∃ r, OpR X (binaryOp op) r ∧ O2 X.K r d e f
structure C2 (X : Cx) (op : CmpOp) (d e f : D) : Prop where
  ex : ∃ r, OpR X (compareOp op) r ∧ O2 X.K r d e f
structure BC (X : Cx) (f : Value) (ds : List D) (d : D) : Prop where
  ex : ∃ r, CallR X f r ∧ ∀ H0 H vs (Q : VK), Same H0 H → DRs X.K H0 ds vs → (∀ v H0' H', JH H0 H H0' H' → DR X.K H0' d v → Q v H') → r vs H Q
structure BO (X : Cx) (f : Value) (ds : List D) (c : OC) : Prop where
  ex : ∃ r, CallR X f r ∧ ∀ H0 H vs (Q : VK), Same H0 H → DRs X.K H0 ds vs → (∀ a o H0' H', JH H0 H H0' H' → H' a = some o → H0' a = none → H a = none → OCR X.K H0' c o → Q (.ref a) H') → r vs H Q
section
variable {X : Cx} {ρ : En} {e a b c : Expr} {d d1 d2 d3 : D} {pos : Pos}
theorem ED.eq {d' : D} (h : ED X ρ e d) (q : d = d') : ED X ρ e d' := q ▸ h
theorem TD.eq {k k' : Bool} (h : TD X ρ e k) (q : k = k') : TD X ρ e k' := q ▸ h
theorem EO.eq {c c' : OC} (h : EO X ρ e c) (q : c = c') : EO X ρ e c' := q ▸ h
theorem DR.own {K : PySem.W.Frag} {H0 : Hp} {c : OC} {a : Addr} {o : HO} (n : H0 a = none) (h : OCR K H0 c o) : DR K (upd H0 a o) c.d (.ref a) := OCR.dr n h
/-- .. and is given to all at once -/
theorem JH.give {H0 H H0' H' : Hp} {a : Addr} {o : HO} (g : JH H0 H H0' H') (h : H' a = some o) (h0 : H0' a = none) (n : H a = none) : JH H0 H (upd H0' a o) H' := by
  refine ⟨fun b u e => upd_keep (g.s0 b u e) (ne_of_none (g.s0 b u e) h0), fun b u e => ?_, g.sB, fun b u e nt e' => ?_⟩
  · by_cases hb : b = a
    · subst hb; rw [upd_same] at e; cases e; exact h
    · rw [upd_ne hb] at e; exact g.sh b u e
  · rw [upd_ne (ne_of_none e n)]; exact g.fr b u e nt e'
theorem ed_own {c : OC} (h : EO X ρ e c) : ED X ρ e c.d := fun B0 B σ H0 H Q j k =>
  h B0 B σ H0 H Q j fun a o H0' H' g h1 h2 h3 r => k _ (upd H0' a o) H' (g.give h1 h2 h3) (DR.own h2 r)
theorem ed_lst {ds : List D} (h : EO X ρ e (.lst ds)) : ED X ρ e (.lst ds) := ed_own h
theorem ed_var (i : Nat) {x : Str} (hρ : ρ[i]? = some (.sh d)) (hN : X.N[i]? = some x := by rfl) (hv : Vis X.env.scope x := by first | exact Or.inl rfl | exact Or.inr (Or.inl rfl) | exact Or.inr (Or.inr rfl)) (hd : (x == ("__debug__" : Str)) = false := by decide)
    (hcd : (x == ("__classdict__" : Str)) = false := by decide) : ED X ρ (.Name x pos) d := fun B0 B σ H0 H Q j k => by
  obtain ⟨ov, h1, v, rfl, h2⟩ := j.get hρ
  exact RE.of (pe_var hN hv hd hcd) ⟨v, h1, k v H0 H (JH.refl j.same) h2⟩
theorem ed_int {i j} : ED X ρ (.Constant (.int i) j pos) (.int i) := fun B0 B σ H0 H Q j k => RE.of pe_int (k _ H0 H (JH.refl j.same) rfl)
theorem ed_bl {i j} : ED X ρ (.Constant (.bool i) j pos) (.bl i) := fun B0 B σ H0 H Q j k => RE.of pe_bl (k _ H0 H (JH.refl j.same) rfl)
theorem ed_non {j} : ED X ρ (.Constant .none j pos) .non := fun B0 B σ H0 H Q j k => RE.of pe_non (k _ H0 H (JH.refl j.same) rfl)
theorem ed_str {i j} : ED X ρ (.Constant (.str i) j pos) (.str i) := fun B0 B σ H0 H Q j k => RE.of pe_str (k _ H0 H (JH.refl j.same) rfl)
theorem ed_bin {op : Operator} (ha : ED X ρ a d1) (hb : ED X ρ b d2) (ho : B2 X op d1 d2 d) : ED X ρ (.BinOp a op b pos) d := fun B0 B σ H0 H Q j k => by
  obtain ⟨r, h1, h2⟩ := ho
  refine RE.of (pe_op h1 pe_star pe_star) (ha B0 B σ H0 H _ j fun x G0 G g1 r1 => ?_)
  refine hb B0 B σ G0 G _ (j.grow g1) fun y L0 L g2 r2 => ?_
  exact h2 L0 L x y Q g2.sh (DR.mono g2.s0 _ _ r1) r2 fun v M0 M g3 r3 => k v M0 M ((g1.trans g2).trans g3) r3
theorem ed_cmp {op : CmpOp} (ha : ED X ρ a d1) (hb : ED X ρ b d2) (ho : C2 X op d1 d2 d) (hm : behindInMarks op b = false := by first | exact nomark _ | rfl) : ED X ρ (.Compare a [op] [b] pos) d := fun B0 B σ H0 H Q j k => by
  obtain ⟨r, h1, h2⟩ := ho
  refine RE.of (pe_cmpR h1 pe_star pe_star hm) (ha B0 B σ H0 H _ j fun x G0 G g1 r1 => ?_)
  refine hb B0 B σ G0 G _ (j.grow g1) fun y L0 L g2 r2 => ?_
  exact h2 L0 L x y Q g2.sh (DR.mono g2.s0 _ _ r1) r2 fun v M0 M g3 r3 => k v M0 M ((g1.trans g2).trans g3) r3
theorem td_cmp {op : CmpOp} {k : Bool} (ha : ED X ρ a d1) (hb : ED X ρ b d2) (ho : C2 X op d1 d2 (.bl k)) (hm : behindInMarks op b = false := by first | exact nomark _ | rfl) : TD X ρ (.Compare a [op] [b] pos) k := fun B0 B σ H0 H Q j kk => by
  obtain ⟨r, h1, h2⟩ := ho
  refine RT.of (pt_cmpR h1 pe_star pe_star hm) (ha B0 B σ H0 H _ j fun x G0 G g1 r1 => ?_)
  refine hb B0 B σ G0 G _ (j.grow g1) fun y L0 L g2 r2 => ?_
  refine h2 L0 L x y _ g2.sh (DR.mono g2.s0 _ _ r1) r2 fun v M0 M g3 r3 => ⟨k, r3, kk M0 M ((g1.trans g2).trans g3)⟩
theorem ed_chain {op op' : CmpOp} {k k' : Bool} (ha : ED X ρ a d1) (hb : ED X ρ b d2) (hc : ED X ρ c d3) (ho : C2 X op d1 d2 (.bl k)) (ho' : C2 X op' d2 d3 (.bl k')) (hm : lastMarks [op, op'] [b, c] = false := by with_unfolding_all rfl) :
    ED X ρ (.Compare a [op, op'] [b, c] pos) (.bl (k && k')) := fun B0 B σ H0 H Q j kk => by
  obtain ⟨r, h1, h2⟩ := ho
  obtain ⟨r', h1', h2'⟩ := ho'
  refine RE.of (pe_chain h1 h1' pe_star pe_star pe_star hm) (ha B0 B σ H0 H _ j fun x G0 G g1 r1 => ?_)
  refine hb B0 B σ G0 G _ (j.grow g1) fun y L0 L g2 r2 => ?_
  refine h2 L0 L x y _ g2.sh (DR.mono g2.s0 _ _ r1) r2 fun v M0 M g3 r3 => ⟨k, r3, ?_⟩
  cases k with
  | false => exact iteF (kk _ M0 M ((g1.trans g2).trans g3) rfl)
  | true =>
    refine iteT (hc B0 B σ M0 M _ (((j.grow g1).grow g2).grow g3) fun z N0 N g4 r4 => ?_)
    exact h2' N0 N y z Q g4.sh (DR.mono (g3.trans g4).s0 _ _ r2) r4 fun v P0 P g5 r5 => kk v P0 P (((g1.trans g2).trans (g3.trans g4)).trans g5) (by simpa using r5)
theorem td_chain {op op' : CmpOp} {k k' : Bool} (ha : ED X ρ a d1) (hb : ED X ρ b d2) (hc : ED X ρ c d3) (ho : C2 X op d1 d2 (.bl k)) (ho' : C2 X op' d2 d3 (.bl k')) (hm : lastMarks [op, op'] [b, c] = false := by with_unfolding_all rfl) :
    TD X ρ (.Compare a [op, op'] [b, c] pos) (k && k') := fun B0 B σ H0 H Q j kk => by
  obtain ⟨r, h1, h2⟩ := ho
  obtain ⟨r', h1', h2'⟩ := ho'
  refine RT.of (pt_chain h1 h1' pe_star pe_star pe_star hm) (ha B0 B σ H0 H _ j fun x G0 G g1 r1 => ?_)
  refine hb B0 B σ G0 G _ (j.grow g1) fun y L0 L g2 r2 => ?_
  refine h2 L0 L x y _ g2.sh (DR.mono g2.s0 _ _ r1) r2 fun v M0 M g3 r3 => ⟨k, r3, ?_⟩
  cases k with
  | false => exact iteF ⟨_, rfl, kk M0 M ((g1.trans g2).trans g3)⟩
  | true =>
    refine iteT (hc B0 B σ M0 M _ (((j.grow g1).grow g2).grow g3) fun z N0 N g4 r4 => ?_)
    exact h2' N0 N y z _ g4.sh (DR.mono (g3.trans g4).s0 _ _ r2) r4 fun v P0 P g5 r5 => ⟨k', r5, kk P0 P (((g1.trans g2).trans (g3.trans g4)).trans g5)⟩
theorem td_not {k : Bool} (h : TD X ρ a k) : TD X ρ (.UnaryOp .Not a pos) (!k) := fun B0 B σ H0 H Q j kk =>
  RT.of (pt_not pt_star) (h B0 B σ H0 H _ j fun H0' H' g => kk H0' H' g)
theorem tw_and1 {k : Bool} (h : TD X ρ a k) : TW X ρ (.BoolOp .And [a] pos) k := fun B0 B σ H0 H Q j kk => ⟨_, pw_and1 pt_star, h B0 B σ H0 H _ j kk⟩
theorem tw_or1 {k : Bool} (h : TD X ρ a k) : TW X ρ (.BoolOp .Or [a] pos) k := fun B0 B σ H0 H Q j kk => ⟨_, pw_or1 pt_star, h B0 B σ H0 H _ j kk⟩
theorem tw_and {k k' : Bool} {rest : List Expr} (h : TD X ρ a k) (h' : k = true → TW X ρ (.BoolOp .And (b :: rest) pos) k') : TW X ρ (.BoolOp .And (a :: b :: rest) pos) (k && k') := fun B0 B σ H0 H Q j kk => by
  refine ⟨_, pw_and pt_star pw_star, h B0 B σ H0 H _ j fun H0' H' g => ?_⟩
  cases k with
  | false => exact iteF (kk H0' H' g)
  | true => exact iteT (h' rfl B0 B σ H0' H' _ (j.grow g) fun G0 G g2 => kk G0 G (g.trans g2))
theorem tw_or {k k' : Bool} {rest : List Expr} (h : TD X ρ a k) (h' : k = false → TW X ρ (.BoolOp .Or (b :: rest) pos) k') : TW X ρ (.BoolOp .Or (a :: b :: rest) pos) (k || k') := fun B0 B σ H0 H Q j kk => by
  refine ⟨_, pw_or pt_star pw_star, h B0 B σ H0 H _ j fun H0' H' g => ?_⟩
  cases k with
  | true => exact iteT (kk H0' H' g)
  | false => exact iteF (h' rfl B0 B σ H0' H' _ (j.grow g) fun G0 G g2 => kk G0 G (g.trans g2))
theorem td_tw {k : Bool} (h : TW X ρ e k) : TD X ρ e k := fun B0 B σ H0 H Q j kk => by
  obtain ⟨t, h1, h2⟩ := h B0 B σ H0 H Q j kk
  exact ⟨t, h1.pt, h2⟩
/-- and, or as values -/
theorem ed_one {op} (h : ED X ρ a d) : ED X ρ (.BoolOp op [a] pos) d := fun B0 B σ H0 H Q j kk => RE.of (pe_one pe_star) (h B0 B σ H0 H _ j kk)
theorem ed_and {k k' : Bool} {rest : List Expr} (h : ED X ρ a (.bl k)) (h' : k = true → ED X ρ (.BoolOp .And (b :: rest) pos) (.bl k')) : ED X ρ (.BoolOp .And (a :: b :: rest) pos) (.bl (k && k')) := fun B0 B σ H0 H Q j kk => by
  refine RE.of (pe_and pe_star pe_star) (h B0 B σ H0 H _ j fun v H0' H' g r => ⟨k, r, ?_⟩)
  cases k with
  | false => exact iteF (kk _ H0' H' g rfl)
  | true => exact iteT (h' rfl B0 B σ H0' H' _ (j.grow g) fun v G0 G g2 r2 => kk v G0 G (g.trans g2) r2)
theorem ed_or {k k' : Bool} {rest : List Expr} (h : ED X ρ a (.bl k)) (h' : k = false → ED X ρ (.BoolOp .Or (b :: rest) pos) (.bl k')) : ED X ρ (.BoolOp .Or (a :: b :: rest) pos) (.bl (k || k')) := fun B0 B σ H0 H Q j kk => by
  refine RE.of (pe_or pe_star pe_star) (h B0 B σ H0 H _ j fun v H0' H' g r => ⟨k, r, ?_⟩)
  cases k with
  | true => exact iteT (kk _ H0' H' g rfl)
  | false => exact iteF (h' rfl B0 B σ H0' H' _ (j.grow g) fun v G0 G g2 r2 => kk v G0 G (g.trans g2) r2)
theorem ed_not {k : Bool} (h : ED X ρ a (.bl k)) : ED X ρ (.UnaryOp .Not a pos) (.bl (!k)) := fun B0 B σ H0 H Q j kk =>
  RE.of (pe_not pe_star) (h B0 B σ H0 H _ j fun v H0' H' g r => ⟨k, r, kk _ H0' H' g rfl⟩)
theorem ed_if {k : Bool} (h : TD X ρ c k) (h1 : k = true → ED X ρ a d) (h2 : k = false → ED X ρ b d) : ED X ρ (.IfExp c a b pos) d := fun B0 B σ H0 H Q j kk => by
  refine RE.of (pe_ifExp pt_star pe_star pe_star) (h B0 B σ H0 H _ j fun H0' H' g => ?_)
  cases k with
  | true => exact iteT (h1 rfl B0 B σ H0' H' _ (j.grow g) fun v G0 G g2 r2 => kk v G0 G (g.trans g2) r2)
  | false => exact iteF (h2 rfl B0 B σ H0' H' _ (j.grow g) fun v G0 G g2 r2 => kk v G0 G (g.trans g2) r2)
theorem ed_neg {i : Int} (h : ED X ρ a (.int i)) : ED X ρ (.UnaryOp .USub a pos) (.int (-i)) := fun B0 B σ H0 H Q j kk =>
  RE.of (pe_un un_neg pe_star) (h B0 B σ H0 H _ j fun v H0' H' g r => ⟨i, r, kk _ H0' H' g rfl⟩)
theorem ad_nil : AD X ρ [] [] := fun B0 B σ H0 H Q j k => RA.of pa_nil (k [] H0 H (JH.refl j.same) rfl)
theorem ad_cons {es : List Expr} {ds : List D} (h : ED X ρ e d) (r : AD X ρ es ds) (hs : starEach (e :: es) X.env = (false, eval e X.env) :: starEach es X.env := by rfl) : AD X ρ (e :: es) (d :: ds) := fun B0 B σ H0 H Q j k =>
  RA.of (pa_cons pe_star pa_star hs) (h B0 B σ H0 H _ j fun v G0 G g1 r1 => r B0 B σ G0 G _ (j.grow g1) fun vs L0 L g2 r2 => k (v :: vs) L0 L (g1.trans g2) ⟨v, vs, rfl, DR.mono g2.s0 _ _ r1, r2⟩)
theorem ed_tup {es : List Expr} {ds : List D} {x1} (h : AD X ρ es ds) (hl : ds.length ≤ sizeLine := by first | decide | (simp only [List.length_cons, List.length_nil]; decide)) : ED X ρ (.Tuple es x1 pos) (.tup ds) := fun B0 B σ H0 H Q j k =>
  RE.of (pe_tup pa_star) (h B0 B σ H0 H _ j fun vs G0 G g r => ⟨by rw [← r.length]; exact hl, fun p hp => by
    have g2 : JH G0 G (upd G0 p (.tup vs)) (upd G p (.tup vs)) := JH.new g.sh hp
    exact k _ _ _ (g.trans g2) ⟨p, vs, rfl, SqT.of upd_same, DRs.mono g2.s0 _ _ r⟩⟩)
theorem eo_lst {es : List Expr} {ds : List D} (h : AD X ρ es ds) (hl : ds.length ≤ sizeLine := by first | decide | (simp only [List.length_cons, List.length_nil]; decide)) : EO X ρ (.List es pos) (.lst ds) := fun B0 B σ H0 H Q j k =>
  RE.of (pe_lst pa_star) (h B0 B σ H0 H _ j fun vs G0 G g r => ⟨by rw [← r.length]; exact hl, fun p hp => by
    have g2 : JH G0 G G0 (upd G p (.lst vs)) := JH.own g.sh hp
    exact k p _ _ _ (g.trans g2) upd_same (g.sh.free hp) (g.sB.free hp) ⟨vs, rfl, r⟩⟩)
def spR (K : PySem.W.Frag) (R : List D → D → Prop) : Sp := fun vs H Q _ => ∃ H0 ds d, Same H0 H ∧ DRs K H0 ds vs ∧ R ds d ∧ ∀ r H0' H', JH H0 H H0' H' → DR K H0' d r → Q r H'
/-- a def of the program at hand -/
structure Fn (P : Program) (w : World) (K : PySem.W.Frag) (mg : Str → Option Value) (base : Heap) (x : Str) (k : Nat) (R : List D → D → Prop) : Prop where
  ex : ∃ f fd ps, FnOk P w K mg base CX0 k f fd ps (spR K R) ∧ mg x = some (.ref f) ∧ PySem.W.keepIn K (.ref f) = true ∧ Binds K fd ps []
theorem ed_call {x : Str} {k : Nat} {R : List D → D → Prop} {es : List Expr} {ds : List D} {p : Pos} (G : Fn X.prog X.w X.K X.mg X.base x k R) (hr : Room k X.A) (hg : Gl X x) (ha : AD X ρ (e :: es) ds) (hR : R ds d)
    (hdb : (x == ("__debug__" : Str)) = false := by decide) (he : starEach (e :: es) X.env = (false, eval e X.env) :: starEach es X.env := by rfl) (hpl : (backTo pos (starEach es X.env)).any (·.1) = false := by rfl) :
    ED X ρ (.Call (.Name x p) (e :: es) [] pos) d := fun B0 B σ H0 H Q j kk => by
  obtain ⟨f, fd, ps, F, hm, hk, hb⟩ := G.ex
  refine RE.of (pe_call (E := E0) F hr hg hm hk hb .nil pass0 pa_star hdb he hpl) (ha B0 B σ H0 H _ j fun vs G0 G g r => ?_)
  rw [List.append_nil]
  exact ⟨G0, ds, d, g.sh, r, hR, fun v L0 L g2 r2 => kk v L0 L (g.trans g2) r2⟩
theorem ed_callB {x : Str} {id : String} {es : List Expr} {ds : List D} {p : Pos} (hg : Gl X x) (hm : X.mg x = none) (hv : bootBuiltins x = some (.builtin id)) (ha : AD X ρ (e :: es) ds) (h : BC X (.builtin id) ds d) (hn : x ≠ "__name__" := by decide) (hdb : (x == ("__debug__" : Str)) = false := by decide)
    (he : starEach (e :: es) X.env = (false, eval e X.env) :: starEach es X.env := by rfl) (hpl : (backTo pos (starEach es X.env)).any (·.1) = false := by rfl) : ED X ρ (.Call (.Name x p) (e :: es) [] pos) d := fun B0 B σ H0 H Q j kk => by
  obtain ⟨r, h1, h2⟩ := h
  exact RE.of (pe_callB h1 hg hm hv pa_star hn hdb he hpl) (ha B0 B σ H0 H _ j fun vs G0 G g r => h2 G0 G vs Q g.sh r fun v L0 L g2 r2 => kk v L0 L (g.trans g2) r2)
theorem ed_callT {x : Str} {T : String} {es : List Expr} {ds : List D} {p : Pos} (hg : Gl X x) (hm : X.mg x = none) (hv : bootBuiltins x = some (.type T)) (ha : AD X ρ (e :: es) ds) (h : BC X (.type T) ds d) (hn : x ≠ "__name__" := by decide) (hdb : (x == ("__debug__" : Str)) = false := by decide)
    (he : starEach (e :: es) X.env = (false, eval e X.env) :: starEach es X.env := by rfl) (hpl : (backTo pos (starEach es X.env)).any (·.1) = false := by rfl) : ED X ρ (.Call (.Name x p) (e :: es) [] pos) d := fun B0 B σ H0 H Q j kk => by
  obtain ⟨r, h1, h2⟩ := h
  exact RE.of (pe_callTy h1 hg hm hv pa_star hn hdb he hpl) (ha B0 B σ H0 H _ j fun vs G0 G g r => h2 G0 G vs Q g.sh r fun v L0 L g2 r2 => kk v L0 L (g.trans g2) r2)
theorem eo_callT {x : Str} {T : String} {es : List Expr} {ds : List D} {c : OC} {p : Pos} (hg : Gl X x) (hm : X.mg x = none) (hv : bootBuiltins x = some (.type T)) (ha : AD X ρ (e :: es) ds) (h : BO X (.type T) ds c) (hn : x ≠ "__name__" := by decide) (hdb : (x == ("__debug__" : Str)) = false := by decide)
    (he : starEach (e :: es) X.env = (false, eval e X.env) :: starEach es X.env := by rfl) (hpl : (backTo pos (starEach es X.env)).any (·.1) = false := by rfl) : EO X ρ (.Call (.Name x p) (e :: es) [] pos) c := fun B0 B σ H0 H Q j kk => by
  obtain ⟨r, h1, h2⟩ := h
  exact RE.of (pe_callTy h1 hg hm hv pa_star hn hdb he hpl) (ha B0 B σ H0 H _ j fun vs G0 G g r => h2 G0 G vs Q g.sh r fun a o L0 L g2 h3 h4 h5 r2 => kk a o L0 L (g.trans g2) h3 h4 (g.sB.free h5) r2)
end
section
variable {X : Cx}
theorem o2_keep {K : PySem.W.Frag} {r : R2} {d e f : D} (v : V) (hv : ∀ H0 : Hp, DR K H0 f v) (h : ∀ H0 H x y (Q : VK), Same H0 H → DR K H0 d x → DR K H0 e y → Q v H → r x y H Q) : O2 K r d e f := fun H0 H x y Q s r1 r2 k =>
  h H0 H x y Q s r1 r2 (k v H0 H (JH.refl s) (hv H0))
theorem b2_add {i j : Int} : B2 X .Add (.int i) (.int j) (.int (i + j)) := ⟨_, op_add, o2_keep _ (fun _ => rfl) fun _ _ _ _ _ _ r1 r2 q => ⟨i, j, r1, r2, q⟩⟩
theorem b2_sub {i j : Int} : B2 X .Sub (.int i) (.int j) (.int (i - j)) := ⟨_, op_sub, o2_keep _ (fun _ => rfl) fun _ _ _ _ _ _ r1 r2 q => ⟨i, j, r1, r2, q⟩⟩
theorem b2_mul {i j : Int} (h : CMul i j) : B2 X .Mult (.int i) (.int j) (.int (i * j)) := ⟨_, op_mul, o2_keep _ (fun _ => rfl) fun _ _ _ _ _ _ r1 r2 q => ⟨i, j, r1, r2, h, q⟩⟩
theorem b2_fdiv {i j : Int} (h : CDiv i j) : B2 X .FloorDiv (.int i) (.int j) (.int (i / j)) := ⟨_, op_fdiv, o2_keep _ (fun _ => rfl) fun _ _ _ _ _ _ r1 r2 q => ⟨i, j, r1, r2, h, q⟩⟩
theorem b2_mod {i j : Int} (h : 0 < j) : B2 X .Mod (.int i) (.int j) (.int (i % j)) := ⟨_, op_mod, o2_keep _ (fun _ => rfl) fun _ _ _ _ _ _ r1 r2 q => ⟨i, j, r1, r2, h, q⟩⟩
theorem b2_pow {i j : Int} (h : CPow i j) : B2 X .Pow (.int i) (.int j) (.int (i ^ j.toNat)) := ⟨_, op_pow, o2_keep _ (fun _ => rfl) fun _ _ _ _ _ _ r1 r2 q => ⟨i, j, r1, r2, h, q⟩⟩
theorem b2_addS {i j : Str} (h : i.length + j.length ≤ sizeLine) : B2 X .Add (.str i) (.str j) (.str (i ++ j)) := ⟨_, op_add_str, o2_keep _ (fun _ => rfl) fun _ _ _ _ _ _ r1 r2 q => ⟨i, j, r1, r2, h, q⟩⟩
theorem c2_lt {i j : Int} : C2 X .Lt (.int i) (.int j) (.bl (decide (i < j))) := ⟨_, op_lt, o2_keep _ (fun _ => rfl) fun _ _ _ _ _ _ r1 r2 q => ⟨i, j, r1, r2, q⟩⟩
theorem c2_le {i j : Int} : C2 X .LtE (.int i) (.int j) (.bl (decide (i ≤ j))) := ⟨_, op_le, o2_keep _ (fun _ => rfl) fun _ _ _ _ _ _ r1 r2 q => ⟨i, j, r1, r2, q⟩⟩
theorem c2_gt {i j : Int} : C2 X .Gt (.int i) (.int j) (.bl (decide (j < i))) := ⟨_, op_gt, o2_keep _ (fun _ => rfl) fun _ _ _ _ _ _ r1 r2 q => ⟨i, j, r1, r2, q⟩⟩
theorem c2_ge {i j : Int} : C2 X .GtE (.int i) (.int j) (.bl (decide (j ≤ i))) := ⟨_, op_ge, o2_keep _ (fun _ => rfl) fun _ _ _ _ _ _ r1 r2 q => ⟨i, j, r1, r2, q⟩⟩
theorem c2_eqI {i j : Int} : C2 X .Eq (.int i) (.int j) (.bl (decide (i = j))) := ⟨_, op_eq, fun H0 H x y Q s r1 r2 k => by
  cases (show x = .int i from r1); cases (show y = .int j from r2)
  exact ⟨rfl, k _ H0 H (JH.refl s) (by simp [DR])⟩⟩
theorem c2_neI {i j : Int} : C2 X .NotEq (.int i) (.int j) (.bl (!decide (i = j))) := ⟨_, op_ne, fun H0 H x y Q s r1 r2 k => by
  cases (show x = .int i from r1); cases (show y = .int j from r2)
  exact ⟨rfl, k _ H0 H (JH.refl s) (by simp [DR])⟩⟩
theorem c2_eqS {i j : Str} : C2 X .Eq (.str i) (.str j) (.bl (decide (i = j))) := ⟨_, op_eq, fun H0 H x y Q s r1 r2 k => by
  cases (show x = .str i from r1); cases (show y = .str j from r2)
  exact ⟨rfl, k _ H0 H (JH.refl s) (by simp [DR])⟩⟩
theorem c2_neS {i j : Str} : C2 X .NotEq (.str i) (.str j) (.bl (!decide (i = j))) := ⟨_, op_ne, fun H0 H x y Q s r1 r2 k => by
  cases (show x = .str i from r1); cases (show y = .str j from r2)
  exact ⟨rfl, k _ H0 H (JH.refl s) (by simp [DR])⟩⟩
theorem c2_eqB {i j : Bool} : C2 X .Eq (.bl i) (.bl j) (.bl (decide (i = j))) := ⟨_, op_eq, fun H0 H x y Q s r1 r2 k => by
  cases (show x = .bl i from r1); cases (show y = .bl j from r2)
  exact ⟨rfl, k _ H0 H (JH.refl s) (by simp [DR])⟩⟩
theorem c2_neB {i j : Bool} : C2 X .NotEq (.bl i) (.bl j) (.bl (!decide (i = j))) := ⟨_, op_ne, fun H0 H x y Q s r1 r2 k => by
  cases (show x = .bl i from r1); cases (show y = .bl j from r2)
  exact ⟨rfl, k _ H0 H (JH.refl s) (by simp [DR])⟩⟩
theorem c2_isB {i j : Bool} : C2 X .Is (.bl i) (.bl j) (.bl (decide (i = j))) := ⟨_, op_isBl, o2_keep _ (fun _ => rfl) fun _ _ _ _ _ _ r1 r2 q => ⟨i, j, r1, r2, q⟩⟩
theorem c2_notB {i j : Bool} : C2 X .IsNot (.bl i) (.bl j) (.bl (!decide (i = j))) := ⟨_, op_notBl, o2_keep _ (fun _ => rfl) fun _ _ _ _ _ _ r1 r2 q => ⟨i, j, r1, r2, q⟩⟩
def isNon : D → Bool
  | .non => true
  | _ => false
theorem DR.non {K : PySem.W.Frag} {H : Hp} {d : D} {v : V} (h : DR K H d v) : decide (v = .non) = isNon d := by
  cases d with
  | non => cases (show v = .non from h); rfl
  | bl _ => cases (show v = .bl _ from h); rfl
  | int _ => cases (show v = .int _ from h); rfl
  | str _ => cases (show v = .str _ from h); rfl
  | ty _ => cases (show v = .ty _ from h); rfl
  | lst _ => obtain ⟨_, _, rfl, _⟩ := h; rfl
  | tup _ => obtain ⟨_, _, rfl, _⟩ := h; rfl
  | dk _ _ => obtain ⟨_, _, rfl, _⟩ := h; rfl
  | dt _ _ => obtain ⟨_, _, rfl, _⟩ := h; rfl
  | obj _ _ _ => obtain ⟨_, _, _, _, rfl, _⟩ := h; rfl
  | ad _ => cases (show v = .ref _ from h); rfl
  | ptp _ => obtain ⟨_, _, _, rfl, _⟩ := h; rfl
  | etp _ => obtain ⟨_, _, rfl, _⟩ := h; rfl
  | exc _ _ _ _ => obtain ⟨rfl, _⟩ := h; rfl
theorem c2_isN {d : D} : C2 X .Is d .non (.bl (isNon d)) := ⟨_, op_isN, fun H0 H x y Q s r1 r2 k => ⟨r2, k _ H0 H (JH.refl s) (by rw [r1.non]; rfl)⟩⟩
theorem c2_notN {d : D} : C2 X .IsNot d .non (.bl (!isNon d)) := ⟨_, op_notN, fun H0 H x y Q s r1 r2 k => ⟨r2, k _ H0 H (JH.refl s) (by rw [r1.non]; rfl)⟩⟩
mutual
def D.py : D → PyData
  | .non => .none
  | .bl b => .bool b
  | .int i => .int i
  | .str x => .str x
  | .lst ds => .list (D.pys ds)
  | .tup ds => .tuple (D.pys ds)
  | .dk _ _ => .none
  | .dt _ _ => .none
  | .obj _ _ _ => .none
  | .ad _ => .none
  | .ptp _ => .none
  | .etp _ => .none
  | .exc _ _ _ _ => .none
  | .ty _ => .none
def D.pys : List D → List PyData
  | [] => []
  | d :: ds => D.py d :: D.pys ds
end
mutual
def D.plain : D → Bool
  | .lst ds => D.plains ds
  | .tup ds => D.plains ds
  | .dk _ _ => false
  | .dt _ _ => false
  | .obj _ _ _ => false
  | .ad _ => false
  | .ptp _ => false
  | .etp _ => false
  | .exc _ _ _ _ => false
  | .ty _ => false
  | _ => true
def D.plains : List D → Bool
  | [] => true
  | d :: ds => D.plain d && D.plains ds
end
mutual
theorem DR.dp {K : PySem.W.Frag} {H : Hp} : ∀ (d : D) (v : V), d.plain = true → DR K H d v → Dp K H v d.py
  | .non, v, _, h => by cases (show v = .non from h); exact .non
  | .bl b, v, _, h => by cases (show v = .bl b from h); exact .bl b
  | .int b, v, _, h => by cases (show v = .int b from h); exact .int b
  | .str b, v, _, h => by cases (show v = .str b from h); exact .str b
  | .lst ds, v, p, h => by
    obtain ⟨a, vs, rfl, h2, h3⟩ := h
    exact .lst h2 (DRs.dp ds vs (by simpa [D.plain] using p) h3)
  | .tup ds, v, p, h => by
    obtain ⟨a, vs, rfl, h2, h3⟩ := h
    exact .tup h2 (DRs.dp ds vs (by simpa [D.plain] using p) h3)
  | .dk _ _, v, p, h => by simp [D.plain] at p
  | .dt _ _, v, p, h => by simp [D.plain] at p
  | .obj _ _ _, v, p, h => by simp [D.plain] at p
  | .ad _, v, p, h => by simp [D.plain] at p
  | .ptp _, v, p, h => by simp [D.plain] at p
  | .etp _, v, p, h => by simp [D.plain] at p
  | .exc _ _ _ _, v, p, h => by simp [D.plain] at p
  | .ty _, v, p, h => by simp [D.plain] at p
theorem DRs.dp {K : PySem.W.Frag} {H : Hp} : ∀ (ds : List D) (vs : List V), D.plains ds = true → DRs K H ds vs → DpAll K H vs (D.pys ds)
  | [], vs, _, h => by cases (show vs = [] from h); exact .nil
  | d :: ds, vs, p, h => by
    obtain ⟨v, r, rfl, h2, h3⟩ := h
    simp only [D.plains, Bool.and_eq_true] at p
    exact .cons (DR.dp d v p.1 h2) (DRs.dp ds r p.2 h3)
end
/-- data that == may be asked of -/
structure Cmp (d : D) : Prop where
  p : d.plain = true
  s : SeqAt.shaped d.py = true
theorem c2_eqD {d e : D} {k : Bool} (hu : X.A.units + 64 < cLine) (hd : Cmp d) (he : Cmp e) (h : PyData.eqv d.py e.py = k) : C2 X .Eq d e (.bl k) := ⟨_, op_eqD hu, fun H0 H x y Q s r1 r2 kk =>
  ⟨d.py, e.py, DR.dp _ _ hd.p (DR.mono s _ _ r1), DR.dp _ _ he.p (DR.mono s _ _ r2), hd.s, he.s, kk _ H0 H (JH.refl s) (by rw [h]; rfl)⟩⟩
theorem c2_neD {d e : D} {k : Bool} (hu : X.A.units + 64 < cLine) (hd : Cmp d) (he : Cmp e) (h : PyData.eqv d.py e.py = k) : C2 X .NotEq d e (.bl (!k)) := ⟨_, op_neD hu, fun H0 H x y Q s r1 r2 kk =>
  ⟨d.py, e.py, DR.dp _ _ hd.p (DR.mono s _ _ r1), DR.dp _ _ he.p (DR.mono s _ _ r2), hd.s, he.s, kk _ H0 H (JH.refl s) (by rw [h]; rfl)⟩⟩
theorem ix_t {ds : List D} {i : Int} {d : D} {ρ : En} {a b : Expr} {pos : Pos} (ha : ED X ρ a (.tup ds)) (hb : ED X ρ b (.int i)) (h : atI ds i = some d) (hs : PlainIx b := by exact fun _ _ => rfl) : ED X ρ (.Subscript a b pos) d := fun B0 B σ H0 H Q j kk => by
  refine RE.of (pe_ix ix_tup pe_star pe_star hs) (ha B0 B σ H0 H _ j fun x G0 G g1 r1 => hb B0 B σ G0 G _ (j.grow g1) fun y L0 L g2 r2 => ?_)
  obtain ⟨p, vs, rfl, h1, h2⟩ := DR.mono g2.s0 _ _ r1
  obtain ⟨k, e1, e2, _⟩ := atI_get h
  obtain ⟨v, h3, h4⟩ := DRs.get h2 e2
  have e4 : atI vs i = some v := by
    unfold atI at h ⊢
    rw [← DRs.length h2]
    cases q : ixN ds.length i with
    | none => rw [q] at h; cases h
    | some m =>
      rw [q] at h
      obtain ⟨v', h5, h6⟩ := DRs.get h2 (show ds[m]? = some d from h)
      show vs[m]? = some v
      have := (ixN_seq q).1
      rw [e1] at this
      cases this
      exact h3
  exact ⟨p, vs, i, v, rfl, r2, Same.seqT g2.sh h1, e4, kk v L0 L (g1.trans g2) h4⟩
theorem ix_l {ds : List D} {i : Int} {d : D} {ρ : En} {a b : Expr} {pos : Pos} (ha : ED X ρ a (.lst ds)) (hb : ED X ρ b (.int i)) (h : atI ds i = some d) (hs : PlainIx b := by exact fun _ _ => rfl) : ED X ρ (.Subscript a b pos) d := fun B0 B σ H0 H Q j kk => by
  refine RE.of (pe_ix ix_list pe_star pe_star hs) (ha B0 B σ H0 H _ j fun x G0 G g1 r1 => hb B0 B σ G0 G _ (j.grow g1) fun y L0 L g2 r2 => ?_)
  obtain ⟨p, vs, rfl, h1, h2⟩ := DR.mono g2.s0 _ _ r1
  obtain ⟨k, e1, e2, _⟩ := atI_get h
  obtain ⟨v, h3, h4⟩ := DRs.get h2 e2
  have e4 : atI vs i = some v := by
    unfold atI at h ⊢
    rw [← DRs.length h2]
    cases q : ixN ds.length i with
    | none => rw [q] at h; cases h
    | some m =>
      rw [q] at h
      show vs[m]? = some v
      have := (ixN_seq q).1
      rw [e1] at this
      cases this
      exact h3
  exact ⟨p, vs, i, v, rfl, r2, g2.sh.seq h1, e4, kk v L0 L (g1.trans g2) h4⟩
theorem bc_keep {f : Value} {ds : List D} {d : D} {r : List V → Hp → VK → Prop} (c : CallR X f r) (v : V) (hv : ∀ H0 : Hp, DR X.K H0 d v) (h : ∀ H0 H vs (Q : VK), Same H0 H → DRs X.K H0 ds vs → Q v H → r vs H Q) : BC X f ds d :=
  ⟨r, c, fun H0 H vs Q s r1 k => h H0 H vs Q s r1 (k v H0 H (JH.refl s) (hv H0))⟩
theorem DRs.two {K : PySem.W.Frag} {H : Hp} {d e : D} {vs : List V} (h : DRs K H [d, e] vs) : ∃ x y, vs = [x, y] ∧ DR K H d x ∧ DR K H e y := by
  obtain ⟨x, r, rfl, h1, h2⟩ := h
  obtain ⟨y, r, rfl, h3, h4⟩ := h2
  cases (show r = [] from h4)
  exact ⟨x, y, rfl, h1, h3⟩
theorem DRs.one' {K : PySem.W.Frag} {H : Hp} {d : D} {vs : List V} (h : DRs K H [d] vs) : ∃ x, vs = [x] ∧ DR K H d x := by
  obtain ⟨x, r, rfl, h1, h2⟩ := h
  cases (show r = [] from h2)
  exact ⟨x, rfl, h1⟩
theorem bc_int {i : Int} : BC X (.type "int") [.int i] (.int i) := bc_keep call_int1 _ (fun _ => rfl) fun _ _ vs _ _ r q => by
  obtain ⟨x, rfl, h⟩ := r.one'
  cases (show x = .int i from h)
  exact .inl ⟨i, rfl, q⟩
theorem bc_min2 {i j : Int} (hc : X.calm = true) : BC X (.builtin "min") [.int i, .int j] (.int (min i j)) := bc_keep (call_min2 hc) _ (fun _ => rfl) fun _ _ vs _ _ r q => by
  obtain ⟨x, y, rfl, h, h'⟩ := r.two
  cases (show x = .int i from h); cases (show y = .int j from h')
  have e : min i j = (if j < i then j else i) := by split <;> omega
  exact ⟨i, j, rfl, by rw [← e]; exact q⟩
theorem bc_max2 {i j : Int} (hc : X.calm = true) : BC X (.builtin "max") [.int i, .int j] (.int (max i j)) := bc_keep (call_max2 hc) _ (fun _ => rfl) fun _ _ vs _ _ r q => by
  obtain ⟨x, y, rfl, h, h'⟩ := r.two
  cases (show x = .int i from h); cases (show y = .int j from h')
  have e : max i j = (if j > i then j else i) := by split <;> omega
  exact ⟨i, j, rfl, by rw [← e]; exact q⟩
theorem bc_lenL {ds : List D} : BC X (.builtin "len") [.lst ds] (.int ds.length) := bc_keep call_len_seq _ (fun _ => rfl) fun _ _ vs _ s r q => by
  obtain ⟨x, rfl, a, ys, rfl, h1, h2⟩ := r.one'
  exact ⟨a, ys, rfl, .inl (s.seq h1), by rw [← DRs.length h2]; exact q⟩
theorem bc_lenT {ds : List D} : BC X (.builtin "len") [.tup ds] (.int ds.length) := bc_keep call_len_seq _ (fun _ => rfl) fun _ _ vs _ s r q => by
  obtain ⟨x, rfl, a, ys, rfl, h1, h2⟩ := r.one'
  exact ⟨a, ys, rfl, .inr (Same.seqT s h1), by rw [← DRs.length h2]; exact q⟩
theorem bc_lenS {z : Str} (h : z.length ≤ sizeLine) : BC X (.builtin "len") [.str z] (.int z.length) := bc_keep call_len_str _ (fun _ => rfl) fun _ _ vs _ s r q => by
  obtain ⟨x, rfl, h1⟩ := r.one'
  exact ⟨z, by rw [show x = .str z from h1], h, q⟩
theorem bc_tupL {ds : List D} : BC X (.type "tuple") [.lst ds] (.tup ds) := ⟨_, call_tuple_of, fun H0 H vs Q s r k => by
  obtain ⟨x, rfl, a, ys, rfl, h1, h2⟩ := r.one'
  exact ⟨a, ys, rfl, .inl ⟨s.seq h1, fun l hl => k _ (upd H0 l (.tup ys)) _ (JH.new s hl) ⟨l, ys, rfl, SqT.of upd_same, DRs.mono (JH.new s hl).s0 _ _ h2⟩⟩⟩⟩
theorem bc_tupT {ds : List D} : BC X (.type "tuple") [.tup ds] (.tup ds) := ⟨_, call_tuple_of, fun H0 H vs Q s r k => by
  obtain ⟨x, rfl, a, ys, rfl, h1, h2⟩ := r.one'
  exact ⟨a, ys, rfl, .inr ⟨Same.seqT s h1, k _ H0 H (JH.refl s) ⟨a, ys, rfl, h1, h2⟩⟩⟩⟩
theorem bo_listL {ds : List D} : BO X (.type "list") [.lst ds] (.lst ds) := ⟨_, call_list_of, fun H0 H vs Q s r k => by
  obtain ⟨x, rfl, a, ys, rfl, h1, h2⟩ := r.one'
  exact ⟨a, ys, rfl, .inl (s.seq h1), fun l hl => k l _ _ _ (JH.own s hl) upd_same (s.free hl) hl ⟨ys, rfl, h2⟩⟩⟩
theorem bo_listT {ds : List D} : BO X (.type "list") [.tup ds] (.lst ds) := ⟨_, call_list_of, fun H0 H vs Q s r k => by
  obtain ⟨x, rfl, a, ys, rfl, h1, h2⟩ := r.one'
  exact ⟨a, ys, rfl, .inr (Same.seqT s h1), fun l hl => k l _ _ _ (JH.own s hl) upd_same (s.free hl) hl ⟨ys, rfl, h2⟩⟩⟩
theorem bc_all {bs : List Bool} (hc : X.calm = true) : BC X (.builtin "all") [.lst (bs.map D.bl)] (.bl (bs.all id)) := bc_keep (cr_all hc) _ (fun _ => rfl) fun _ _ vs _ s r q => by
  obtain ⟨x, rfl, a, ys, rfl, h1, h2⟩ := r.one'
  rw [DRs.bls h2] at h1
  exact ⟨a, bs, rfl, s.seq h1, q⟩
end
end DL
namespace DL
open PySem PySem.Spec L2
def DG (X : Cx) (is : List Nat) (tg : Expr) (d : D) (ρ ρ' : En) : Prop := ∀ B0 B σ H0 H v (Q : St → Hp → Prop), J X.K B0 B σ H0 H ρ → DR X.K H0 d v → (∀ σ', J X.K B0 B σ' H0 H ρ' → (∀ k, k ∉ is → σ'[k]? = σ[k]?) → Q σ' H) → RG X tg v σ H Q
def DGs (X : Cx) (is : List Nat) (ts : List Expr) (ds : List D) (ρ ρ' : En) : Prop := ∀ B0 B σ H0 H vs (Q : St → Hp → Prop), J X.K B0 B σ H0 H ρ → DRs X.K H0 ds vs → (∀ σ', J X.K B0 B σ' H0 H ρ' → (∀ k, k ∉ is → σ'[k]? = σ[k]?) → Q σ' H) → RGs X ts vs σ H Q
section
variable {X : Cx} {ρ ρ' ρ2 : En} {e a b c : Expr} {d d1 d2 d3 : D} {pos : Pos}
theorem dg_name (i : Nat) {x : Str} (hN : X.N.Nodup) (hi : X.N[i]? = some x := by rfl) (hx : Loc X.env.scope x := by first | exact Or.inl rfl | exact Or.inr rfl) (hf : X.fn x = true ∨ X.env.scope.names.lookup x = some .local := by first | exact .inl rfl | exact .inr rfl) :
    DG X [i] (.Name x pos) d ρ (ρ.set i (.sh d)) := fun B0 B σ H0 H v Q j r k => by
  refine ⟨_, pg_name hN hi hx hf, k _ (j.setSh r) fun m hm => ?_⟩
  rw [List.getElem?_set_ne (fun e => hm (by simp [e]))]
theorem dgs_nil : DGs X [] [] [] ρ ρ := fun B0 B σ H0 H vs Q j r k => by
  cases (show vs = [] from r)
  exact ⟨_, pgs_nil, rfl, k σ j fun _ _ => rfl⟩
theorem dgs_cons {is is' : List Nat} {es : List Expr} {ds : List D} (h : DG X is e d ρ ρ') (r : DGs X is' es ds ρ' ρ2) (hs : (assignEach (e :: es) X.env).map (·.2) = assign e X.env :: (assignEach es X.env).map (·.2) := by rfl) :
    DGs X (is ++ is') (e :: es) (d :: ds) ρ ρ2 := fun B0 B σ H0 H vs Q j rr k => by
  obtain ⟨v, ws, rfl, r1, r2⟩ := rr
  refine ⟨_, pgs_cons pg_star pgs_star hs, v, ws, rfl, h B0 B σ H0 H v _ j r1 fun σ1 j1 k1 => r B0 B σ1 H0 H ws _ j1 r2 fun σ2 j2 k2 => k σ2 j2 fun m hm => ?_⟩
  rw [k2 m (fun z => hm (by simp [z])), k1 m (fun z => hm (by simp [z]))]
theorem dg_tup {is : List Nat} {es : List Expr} {ds : List D} {k1 : Nat} {n : Nat} (hc : X.calm = true) (h : DGs X is es ds ρ ρ') (hl : ds.length = n := by rfl) (hn : (assignEach es X.env).length = n := by rfl) (hst : (assignEach es X.env).findIdx? (·.1) = none := by rfl) :
    DG X is (.Tuple es k1 pos) (.tup ds) ρ ρ' := fun B0 B σ H0 H v Q j r k => by
  obtain ⟨p, vs, rfl, h1, h2⟩ := r
  exact ⟨_, pg_tup hc pgs_star hn hst, p, vs, rfl, Same.seqT j.same h1, by rw [← DRs.length h2]; exact hl, h B0 B σ H0 H vs Q j h2 k⟩
def DWalk (K : PySem.W.Frag) (Jt : It) (H0 : Hp) (ds : List D) : Prop := ∃ G Y, Walk Jt ds.length G Y ∧ (∀ H1 H, Same H0 H1 → Same H1 H → G H) ∧
  ∀ i H1 H x H' d, ds[i]? = some d → Same H0 H1 → Same H1 H → Y i H x H' → ∃ H1', JH H1 H H1' H' ∧ DR K H1' d x
def ID (X : Cx) (ρ : En) (tg iter : Expr) (ds : List D) : Prop := ∀ B0 B σ H0 H R, J X.K B0 B σ H0 H ρ → (∀ Jt H0' H', JH H0 H H0' H' → DWalk X.K Jt H0' ds → R Jt H') → RI X tg iter σ H R
theorem dw_list {K : PySem.W.Frag} {H0 : Hp} {p : Addr} {vs : List V} {ds : List D} (h : SqL K H0 p vs) (r : DRs K H0 ds vs) : DWalk K (Itl K p) H0 ds := by
  refine ⟨_, _, (by rw [DRs.length r]; exact walk_list (xs := vs)), fun H1 H s1 s2 => (s1.trans s2).seq h, fun i H1 H x H' d hd s1 s2 y => ?_⟩
  obtain ⟨rfl, hx⟩ := y
  obtain ⟨v, h1, h2⟩ := DRs.get r hd
  rw [hx] at h1; cases h1
  exact ⟨H1, JH.refl s2, DR.mono s1 _ _ h2⟩
theorem dw_tup {K : PySem.W.Frag} {H0 : Hp} {p : Addr} {vs : List V} {ds : List D} (h : SqT K H0 p vs) (r : DRs K H0 ds vs) : DWalk K (Itt K p) H0 ds := by
  refine ⟨_, _, (by rw [DRs.length r]; exact walk_tup (xs := vs)), fun H1 H s1 s2 => Same.seqT (s1.trans s2) h, fun i H1 H x H' d hd s1 s2 y => ?_⟩
  obtain ⟨rfl, hx⟩ := y
  obtain ⟨v, h1, h2⟩ := DRs.get r hd
  rw [hx] at h1; cases h1
  exact ⟨H1, JH.refl s2, DR.mono s1 _ _ h2⟩
/-- lo, lo + 1, .. -/
def rngD (lo : Int) (n : Nat) : List D := (List.range n).map fun (i : Nat) => D.int (lo + (i : Int))
theorem rngD_len (lo : Int) (n : Nat) : (rngD lo n).length = n := by simp [rngD]
theorem rngD_get {lo : Int} {n i : Nat} {d : D} (h : (rngD lo n)[i]? = some d) : i < n ∧ d = .int (lo + i) := by
  have hi : i < n := by have := (List.getElem?_eq_some_iff.mp h).1; rwa [rngD_len] at this
  refine ⟨hi, ?_⟩
  simp [rngD, List.getElem?_map, List.getElem?_range hi] at h
  exact h.symm
theorem dw_range {K : PySem.W.Frag} {H0 : Hp} {lo : Int} {n : Nat} : DWalk K (Itr lo n) H0 (rngD lo n) := by
  refine ⟨_, _, (by rw [rngD_len]; exact walk_range), fun _ _ _ _ => trivial, fun i H1 H x H' d hd s1 s2 y => ?_⟩
  obtain ⟨rfl, rfl⟩ := y
  obtain ⟨_, rfl⟩ := rngD_get hd
  exact ⟨H1, JH.refl s2, rfl⟩
theorem dw_pair {K : PySem.W.Frag} {Jt : It} {H0 : Hp} {n : Nat} {G : Hp → Prop} {xs ys : Nat → Option V} {ds : List D} {f g : Nat → Option D} (w : Walk Jt n G (YPair xs ys)) (hn : n = ds.length) (hG : ∀ H1 H, Same H0 H1 → Same H1 H → G H)
    (hd : ∀ i d, ds[i]? = some d → ∃ d1 d2, d = .tup [d1, d2] ∧ (∀ v, xs i = some v → DR K H0 d1 v) ∧ ∀ v, ys i = some v → DR K H0 d2 v) : DWalk K Jt H0 ds := by
  subst hn
  refine ⟨_, _, w, hG, fun i H1 H x H' d h s1 s2 y => ?_⟩
  obtain ⟨T, v1, v2, rfl, hT, rfl, hx, hy⟩ := y
  obtain ⟨d1, d2, rfl, q1, q2⟩ := hd i d h
  have g := JH.new (o := .tup [v1, v2]) s2 hT
  exact ⟨_, g, T, [v1, v2], rfl, SqT.of upd_same, v1, [v2], rfl, DR.mono (s1.trans g.s0) _ _ (q1 v1 hx), v2, [], rfl, DR.mono (s1.trans g.s0) _ _ (q2 v2 hy), rfl⟩
theorem id_list {ds : List D} {tg : Expr} (h : ED X ρ e (.lst ds)) : ID X ρ tg e ds := fun B0 B σ H0 H R j k =>
  ⟨_, pi_list pe_star, h B0 B σ H0 H _ j fun v G0 G g r => by
    obtain ⟨p, vs, rfl, h1, h2⟩ := r
    exact ⟨p, rfl, ⟨vs, g.sh.seq h1⟩, k _ G0 G g (dw_list h1 h2)⟩⟩
theorem id_tup {ds : List D} {tg : Expr} (h : ED X ρ e (.tup ds)) : ID X ρ tg e ds := fun B0 B σ H0 H R j k =>
  ⟨_, pi_tup pe_star, h B0 B σ H0 H _ j fun v G0 G g r => by
    obtain ⟨p, vs, rfl, h1, h2⟩ := r
    exact ⟨p, rfl, ⟨vs, Same.seqT g.sh h1⟩, k _ G0 G g (dw_tup h1 h2)⟩⟩
theorem id_range1 {tg : Expr} {p : Pos} {i : Int} (hg : Gl X "range") (hm : X.mg "range" = none) (ha : ED X ρ a (.int i)) (hb : -(2 ^ 62) ≤ i ∧ i < 2 ^ 62) (hs : starEach [a] X.env = [(false, eval a X.env)] := by rfl) (hs2 : starEach [a] X.env = (false, eval a X.env) :: starEach [] X.env := by rfl) :
    ID X ρ tg (.Call (.Name "range" p) [a] [] pos) (rngD 0 i.toNat) := fun B0 B σ H0 H R j k =>
  ⟨_, pi_range1 hg hm pa_star hs, ad_cons (X := X) ha ad_nil hs2 B0 B σ H0 H _ j fun vs G0 G g r => by
    obtain ⟨x, rfl, h⟩ := r.one'
    cases (show x = .int i from h)
    exact ⟨i, rfl, hb.1, hb.2, k _ G0 G g dw_range⟩⟩
def wipeE (ρ : En) : List Nat → En
  | [] => ρ
  | v :: vs => (wipeE ρ vs).set v .no
theorem J.setNo {K : PySem.W.Frag} {B0 B H0 H : Hp} {σ : St} {ρ : En} (j : J K B0 B σ H0 H ρ) (i : Nat) : J K B0 B (σ.set i none) H0 H (ρ.set i .no) := j.setTo (s := .no) True.intro fun a w => w.elim
theorem J.wipe {K : PySem.W.Frag} {B0 B H0 H : Hp} {σ : St} {ρ : En} (j : J K B0 B σ H0 H ρ) : ∀ vs : List Nat, J K B0 B (wipe σ vs) H0 H (wipeE ρ vs)
  | [] => j
  | v :: vs => (J.wipe j vs).setNo v
theorem wipe_at {σ : St} {i : Nat} : ∀ {vs : List Nat}, i ∈ vs → i < σ.length → (wipe σ vs)[i]? = some none
  | v :: vs, h, hl => by
    unfold wipe
    by_cases e : v = i
    · subst e
      rw [List.getElem?_set_self (by rw [wipe_length]; exact hl)]
    · rw [List.getElem?_set_ne e]
      exact wipe_at (by simpa [Ne.symm e] using h) hl
theorem wipe_back {σ σ2 : St} {vs : List Nat} (hl : σ2.length = σ.length) (h : ∀ k, k ∉ vs → σ2[k]? = (wipe σ vs)[k]?) : wipe σ2 vs = wipe σ vs := by
  refine List.ext_getElem? fun k => ?_
  by_cases hk : k ∈ vs
  · by_cases hb : k < σ.length
    · rw [wipe_at hk (by omega), wipe_at hk hb]
    · rw [List.getElem?_eq_none (by rw [wipe_length]; omega), List.getElem?_eq_none (by rw [wipe_length]; omega)]
  · rw [wipe_out hk, h k hk]
def RTs (X : Cx) (ifs : List Expr) : TT := fun σ H Q => ∃ t, PTs X ifs t ∧ t σ H Q
def TDs (X : Cx) (ρ : En) (ifs : List Expr) (b : Bool) : Prop := ∀ B0 B σ H0 H (Q : Bool → Hp → Prop), J X.K B0 B σ H0 H ρ → (∀ H0' H', JH H0 H H0' H' → Q b H') → RTs X ifs σ H Q
theorem tds_nil : TDs X ρ [] true := fun B0 B σ H0 H Q j k => ⟨_, pts_nil, k H0 H (JH.refl j.same)⟩
theorem filterMap_take {α β : Type} (g : α → Option β) (ds : List α) (i : Nat) (d : α) (h : ds[i]? = some d) : (ds.take (i + 1)).filterMap g = (ds.take i).filterMap g ++ (g d).toList := by
  rw [List.take_add_one, h, List.filterMap_append]
  cases q : g d <;> simp [List.filterMap_cons, q]
theorem filterMap_len {α β : Type} (g : α → Option β) (ds : List α) (i : Nat) : ((ds.take i).filterMap g).length ≤ i := by
  refine Nat.le_trans (List.length_filterMap_le _ _) ?_
  simp; omega
section
variable {elt tg iter : Expr} {ifs : List Expr} {scope : Scope} {own : List (Str × Nat)} {ds : List D}
/-- one turn of a comprehension, in every block that may be -/
def Turn1 (X : Cx) (ρ : En) (scope : Scope) (vs : List Nat) (tg elt : Expr) (ifs : List Expr) (d : D) (y : Option D) : Prop :=
  ∃ ρ' : En, ρ'.length = ρ.length ∧ ∀ (s : Shared) (H : Hp) (C : Addr) (cl : List (Str × Addr)) (fp : List Addr), DG (X.blk s H scope (compEnvC scope cl C X.env) fp) vs tg d (wipeE ρ vs) ρ' ∧
    (match y with
    | some z => TDs (X.blk s H scope (compEnvC scope cl C X.env) fp) ρ' ifs true ∧ ED (X.blk s H scope (compEnvC scope cl C X.env) fp) ρ' elt z
    | none => TDs (X.blk s H scope (compEnvC scope cl C X.env) fp) ρ' ifs false)
def GB (X : Cx) (scope : Scope) (tg : Expr) : TG := fun v σ H Q => ∀ (s : Shared) (H' : Hp) (C : Addr) (cl : List (Str × Addr)) (fp : List Addr), RG (X.blk s H' scope (compEnvC scope cl C X.env) fp) tg v σ H Q
def TB (X : Cx) (scope : Scope) (ifs : List Expr) : TT := fun σ H Q => ∀ (s : Shared) (H' : Hp) (C : Addr) (cl : List (Str × Addr)) (fp : List Addr), RTs (X.blk s H' scope (compEnvC scope cl C X.env) fp) ifs σ H Q
def EB (X : Cx) (scope : Scope) (elt : Expr) : TE := fun σ H Q => ∀ (s : Shared) (H' : Hp) (C : Addr) (cl : List (Str × Addr)) (fp : List Addr), RE (X.blk s H' scope (compEnvC scope cl C X.env) fp) elt σ H Q
def TLc (X : Cx) (scope : Scope) (own : List (Str × Nat)) (tg elt iter : Expr) (ifs : List Expr) : TE := tLc (RI X tg iter) (GB X scope tg) (TB X scope ifs) (EB X scope elt) (own.map (·.2))
theorem wipeE_length (ρ : En) : ∀ vs : List Nat, (wipeE ρ vs).length = ρ.length
  | [] => rfl
  | v :: vs => by unfold wipeE; rw [List.length_set, wipeE_length ρ vs]
theorem lc_read (hi : ID X ρ tg iter ds) (ys : List (Option D)) (hlen : ys.length = ds.length) (turn : ∀ (i : Nat) d y, ds[i]? = some d → ys[i]? = some y → Turn1 X ρ scope (own.map (·.2)) tg elt ifs d y) (hl : ds.length ≤ sizeLine) {B0 B : Hp} {σ : St} {H0 H : Hp} {Q : VK} (j : J X.K B0 B σ H0 H ρ)
    (k : ∀ a o H0' H', JH H0 H H0' H' → H' a = some o → H0' a = none → H a = none → OCR X.K H0' (.lst (ys.filterMap id)) o → Q (.ref a) H') : TLc X scope own tg elt iter ifs σ H Q := by
  refine hi B0 B σ H0 H _ j fun Jt G0 G g0 ⟨GG, Y, w, hG, hY⟩ => fun Dn hD => ?_
  have j0 := j.grow g0
  refine lc_it (g := GB X scope tg) (tt := TB X scope ifs) (te := EB X scope elt) (vs := own.map (·.2)) (Qd := fun H => Q (.ref Dn) H) w (fun i H1 => ∃ L0 acc, JH G0 G L0 H1 ∧ H1 Dn = some (.lst acc) ∧ L0 Dn = none ∧ DRs X.K L0 ((ys.take i).filterMap id) acc) ⟨G0, [], JH.own g0.sh hD, upd_same, g0.sh.free hD, rfl⟩ (fun i H1 _ ⟨L0, acc, g1, _⟩ => hG L0 H1 g1.s0 g1.sh) ?_ ?_
  · rintro i x H1 H1' hi ⟨L0, acc, g1, hDn, hD0, racc⟩ hy
    obtain ⟨d, hd⟩ : ∃ d, ds[i]? = some d := ⟨ds[i], by simp [hi]⟩
    obtain ⟨L1, g2, rx⟩ := hY i L0 H1 x H1' d hd g1.s0 g1.sh hy
    obtain ⟨yo, hyo⟩ : ∃ y, ys[i]? = some y := ⟨ys[i]'(by omega), by simp [show i < ys.length by omega]⟩
    obtain ⟨ρ', hlen', turn⟩ := turn i d yo hd hyo
    have j1 := ((j0.grow g1).grow g2).wipe (own.map (·.2))
    have hacc : acc.length < sizeLine := by
      have h1 := DRs.length racc
      have h2 := filterMap_len id ys i
      omega
    intro s Hs C cl fp
    refine (turn s Hs C cl fp).1 B0 B _ L1 H1' x _ j1 rx fun σ2 j2 off => ⟨wipe_back (by rw [j2.len, hlen', ← wipeE_length ρ (own.map (·.2)), ← j1.len, wipe_length]) off, ?_⟩
    have gg := g1.trans g2
    have hDn' : H1' Dn = some (.lst acc) := g2.sB _ _ hDn
    have hD0' : L1 Dn = none := g2.fr _ _ hDn trivial hD0
    have eT := filterMap_take id ys i yo hyo
    cases yo with
    | none =>
      intro s Hs C cl fp
      have t2 := (turn s Hs C cl fp).2
      refine t2 B0 B σ2 L1 H1' _ j2 fun M0 M g3 => iteF ⟨M0, acc, gg.trans g3, g3.sB _ _ hDn', g3.fr _ _ hDn' trivial hD0', ?_⟩
      rw [eT]
      simpa using DRs.mono (g2.trans g3).s0 _ _ racc
    | some z =>
      intro s Hs C cl fp
      have t2 := (turn s Hs C cl fp).2
      refine t2.1 B0 B σ2 L1 H1' _ j2 fun M0 M g3 => iteT fun s Hs C cl fp => ?_
      have t3 := (turn s Hs C cl fp).2
      refine t3.2 B0 B σ2 M0 M _ (j2.grow g3) fun y N0 N g4 ry => ?_
      have g34 := g3.trans g4
      have h4 : N Dn = some (.lst acc) := g34.sB _ _ hDn'
      have h40 : N0 Dn = none := g34.fr _ _ hDn' trivial hD0'
      have gl := gg.trans g34
      refine ⟨acc, h4, hacc, N0, acc ++ [y], ⟨gl.s0, fun b u e => upd_keep (gl.sh b u e) (ne_of_none e h40), fun b u e => upd_keep (gl.sB b u e) (ne_of_none e hD), gl.fr⟩, upd_same, h40, ?_⟩
      rw [eT]
      exact DRs.app (DRs.mono (g2.trans g34).s0 _ _ racc) (DRs.one ry)
  · rintro H1 ⟨L0, acc, g1, hDn, hD0, racc⟩
    rw [List.take_of_length_le (Nat.le_of_eq hlen)] at racc
    exact k Dn _ L0 H1 (g0.trans g1) hDn hD0 (g0.sB.free hD) ⟨acc, rfl, racc⟩
variable {cpos : Pos}
theorem eo_lc (own : List (Str × Nat)) (hc : X.calm = true) (hN : X.N.Nodup) (ok : BlkOk X.N X.env.scope scope own) (hi : ID X ρ tg iter ds) (ys : List (Option D)) (hlen : ys.length = ds.length) (turn : ∀ (i : Nat) d y, ds[i]? = some d → ys[i]? = some y → Turn1 X ρ scope (own.map (·.2)) tg elt ifs d y) (hl : ds.length ≤ sizeLine)
    (hs : ∀ x, foldedSetIterable iter X.env x = pure x := by intro _; rfl) : EO X ρ (.ListComp elt [⟨tg, iter, ifs, 0⟩] scope cpos) (.lst (ys.filterMap id)) := fun B0 B σ H0 H Q j k =>
  RE.of (pe_lc hc hN pi_star ok (g := GB X scope tg) (tt := TB X scope ifs) (te := EB X scope elt)
    (fun s H C cl fp => ⟨fun pins s1 σ1 H1 v u Q1 I r h => (pg_star (tg := tg)).run pins s1 σ1 H1 v u Q1 I r (h s H C cl fp)⟩)
    (fun s H C cl fp => ⟨fun pins s1 σ1 H1 Q1 I h => by obtain ⟨t, h1, h2⟩ := h s H C cl fp; exact h1.run pins s1 σ1 H1 Q1 I h2⟩)
    (fun s H C cl fp => ⟨fun pins s1 σ1 H1 Q1 I h => (pe_star (e := elt)).run pins s1 σ1 H1 Q1 I (h s H C cl fp)⟩) hs) (lc_read hi ys hlen turn hl j k)
end
inductive Out where
  | nx (ρ : En) | bk (ρ : En) | ct (ρ : En) | rt (d : D)
  /-- .. with what was its own -/
  | ro (c : OC)
  /-- .. with what it was lent -/
  | rc (d : D) (cs : List (Addr × OC))
def Post (K : PySem.W.Frag) (B0 B : Hp) (Dn : Ends) : Out → Prop
  | .nx ρ => ∀ σ H0 H, J K B0 B σ H0 H ρ → Dn.nx σ H
  | .bk ρ => ∀ σ H0 H, J K B0 B σ H0 H ρ → Dn.bk σ H
  | .ct ρ => ∀ σ H0 H, J K B0 B σ H0 H ρ → Dn.ct σ H
  | .rt d => ∀ v H0 H, JH B0 B H0 H → DR K H0 d v → Dn.rt v H
  | .ro c => ∀ a o H0 H, JH B0 B H0 H → H a = some o → H0 a = none → B a = none → OCR K H0 c o → Dn.rt (.ref a) H
  | .rc d cs => ∀ v H0 H, JH B0 B H0 H → (∀ p ∈ cs, CellR K B H0 H p.1 p.2) → (cs.map (·.1)).Nodup → DR K H0 d v → Dn.rt v H
def WS (X : Cx) (st : Stmt) (ρ : En) (Φ : Out → Prop) : Prop := ∀ B0 B σ H0 H Dn, J X.K B0 B σ H0 H ρ → (∀ o, Φ o → Post X.K B0 B Dn o) → RS X st Dn σ H
def WSs (X : Cx) (sts : List Stmt) (ρ : En) (Φ : Out → Prop) : Prop := ∀ B0 B σ H0 H Dn, J X.K B0 B σ H0 H ρ → (∀ o, Φ o → Post X.K B0 B Dn o) → RSs X sts Dn σ H
/-- what is wanted of a statement that others follow -/
def Then (X : Cx) (rest : List Stmt) (Φ : Out → Prop) : Out → Prop
  | .nx ρ => WSs X rest ρ Φ
  | o => Φ o
variable {st : Stmt} {rest : List Stmt} {Φ : Out → Prop}
theorem ws_nil (h : Φ (.nx ρ)) : WSs X [] ρ Φ := fun B0 B σ H0 H Dn j k => ⟨_, pss_nil, k _ h σ H0 H j⟩
theorem ws_cons (h : WS X st ρ (Then X rest Φ)) : WSs X (st :: rest) ρ Φ := fun B0 B σ H0 H Dn j k => by
  refine ⟨_, pss_cons ps_star pss_star, h B0 B σ H0 H _ j fun o ho => ?_⟩
  cases o with
  | nx ρ' => exact fun σ' H0' H' j' => ho B0 B σ' H0' H' Dn j' k
  | bk ρ' => exact k _ ho
  | ct ρ' => exact k _ ho
  | rt d => exact k _ ho
  | ro c => exact k _ ho
  | rc d cs => exact k _ ho
theorem ws_mono {Ψ : Out → Prop} (h : WSs X rest ρ Ψ) (k : ∀ o, Ψ o → Φ o) : WSs X rest ρ Φ := fun B0 B σ H0 H Dn j kk => h B0 B σ H0 H Dn j fun o ho => kk o (k o ho)
/-- what a slot owns is given to all -/
theorem ws_share (i : Nat) {c : OC} (hi : ρ[i]? = some (.ow c)) (h : WSs X rest (ρ.set i (.sh c.d)) Φ) : WSs X rest ρ Φ := fun B0 B σ H0 H Dn j k => by
  obtain ⟨H0', j', _⟩ := j.share hi
  exact h B0 B σ H0' H Dn j' k
theorem ws_ret (h : ED X ρ e d) (hΦ : Φ (.rt d)) : WS X (.Return (some e) pos) ρ Φ := fun B0 B σ H0 H Dn j k =>
  ⟨_, ps_ret pe_star, h B0 B σ H0 H _ j fun v H0' H' g r => k _ hΦ v H0' H' (j.hp.trans g) r⟩
theorem ws_if {k : Bool} {sa sb : List Stmt} (hc : TD X ρ c k) (h1 : k = true → WSs X sa ρ Φ) (h2 : k = false → WSs X sb ρ Φ) : WS X (.If c sa sb pos) ρ Φ := fun B0 B σ H0 H Dn j kk => by
  refine ⟨_, ps_if pt_star pss_star pss_star, hc B0 B σ H0 H _ j fun H0' H' g => ?_⟩
  cases k with
  | true => exact iteT (h1 rfl B0 B σ H0' H' Dn (j.grow g) kk)
  | false => exact iteF (h2 rfl B0 B σ H0' H' Dn (j.grow g) kk)
theorem ws_set (i : Nat) {x : Str} {pos' : Pos} (hN : X.N.Nodup) (he : ED X ρ e d) (hΦ : Φ (.nx (ρ.set i (.sh d)))) (hi : X.N[i]? = some x := by rfl) (hx : Loc X.env.scope x := by first | exact Or.inl rfl | exact Or.inr rfl)
    (hs : swapsWith e (some (.Name x pos')) pos.line X.env = pure false := by rfl) (hf : X.fn x = true ∨ X.env.scope.names.lookup x = some .local := by first | exact .inl rfl | exact .inr rfl) : WS X (.Assign [.Name x pos'] e pos) ρ Φ := fun B0 B σ H0 H Dn j k =>
  ⟨_, ps_set hN hi hx pe_star hs hf, he B0 B σ H0 H _ j fun v H0' H' g r => k _ hΦ _ H0' H' ((j.grow g).setSh r)⟩
theorem J.setNew {K : PySem.W.Frag} {B0 B H0 H H0' H' : Hp} {σ : St} {ρ : En} (j : J K B0 B σ H0 H ρ) (g : JH H0 H H0' H') {i : Nat} {c : OC} {a : Addr} {o : HO} (h : H' a = some o) (h0 : H0' a = none) (n : H a = none) (r : OCR K H0' c o) :
    J K B0 B (σ.set i (some (.ref a))) H0' H' (ρ.set i (.ow c)) :=
  (j.grow g).setOwn h h0 (j.hp.sB.free n) (fun m s ov _ hm hs w => by
    obtain ⟨o', h1, _⟩ := j.own hm hs w
    rw [n] at h1; cases h1) r
theorem ws_setO (i : Nat) {x : Str} {c : OC} {pos' : Pos} (hN : X.N.Nodup) (he : EO X ρ e c) (hΦ : Φ (.nx (ρ.set i (.ow c)))) (hi : X.N[i]? = some x := by rfl) (hx : Loc X.env.scope x := by first | exact Or.inl rfl | exact Or.inr rfl)
    (hs : swapsWith e (some (.Name x pos')) pos.line X.env = pure false := by rfl) (hf : X.fn x = true ∨ X.env.scope.names.lookup x = some .local := by first | exact .inl rfl | exact .inr rfl) : WS X (.Assign [.Name x pos'] e pos) ρ Φ := fun B0 B σ H0 H Dn j k =>
  ⟨_, ps_set hN hi hx pe_star hs hf, he B0 B σ H0 H _ j fun a o H0' H' g h1 h2 h3 r => k _ hΦ _ H0' H' (j.setNew g h1 h2 h3 r)⟩
section
variable {elt tg iter : Expr} {ifs : List Expr} {scope : Scope} {ds : List D} {cpos : Pos}
/-- y = [.. for ..], y a local of the def's own on the same line -/
theorem ws_setLc (i : Nat) (own : List (Str × Nat)) {y : Str} {py : Pos} (hc : X.calm = true) (hN : X.N.Nodup) (ok : BlkOk X.N X.env.scope scope own) (hi : ID X ρ tg iter ds) (ys : List (Option D)) (hlen : ys.length = ds.length) (turn : ∀ (i : Nat) d y, ds[i]? = some d → ys[i]? = some y → Turn1 X ρ scope (own.map (·.2)) tg elt ifs d y) (hl : ds.length ≤ sizeLine)
    (hΦ : Φ (.nx (ρ.set i (.ow (.lst (ys.filterMap id)))))) (hy : X.N[i]? = some y := by rfl) (hyl : X.env.scope.names.lookup y = some .local := by rfl)
    (hsw : swapsWith (.ListComp elt [⟨tg, iter, ifs, 0⟩] scope cpos) (some (.Name y py)) pos.line X.env = pure true := by exact sw_true rfl rfl rfl (by decide +kernel)) (hs : ∀ x, foldedSetIterable iter X.env x = pure x := by intro _; rfl) :
    WS X (.Assign [.Name y py] (.ListComp elt [⟨tg, iter, ifs, 0⟩] scope cpos) pos) ρ Φ := fun B0 B σ H0 H Dn j k =>
  ⟨_, ps_setLc hc hN hy hyl hsw pi_star ok (g := GB X scope tg) (tt := TB X scope ifs) (te := EB X scope elt)
    (fun s H C cl fp => ⟨fun pins s1 σ1 H1 v u Q1 I r h => (pg_star (tg := tg)).run pins s1 σ1 H1 v u Q1 I r (h s H C cl fp)⟩)
    (fun s H C cl fp => ⟨fun pins s1 σ1 H1 Q1 I h => by obtain ⟨t, h1, h2⟩ := h s H C cl fp; exact h1.run pins s1 σ1 H1 Q1 I h2⟩)
    (fun s H C cl fp => ⟨fun pins s1 σ1 H1 Q1 I h => (pe_star (e := elt)).run pins s1 σ1 H1 Q1 I (h s H C cl fp)⟩) hs,
   lc_read hi ys hlen turn hl j fun a o H0' H' gg h1 h2 h3 r => k _ hΦ _ H0' H' (j.setNew gg h1 h2 h3 r)⟩
end
/-- xs.append(e), xs a list of the def's own -/
theorem ws_append (i : Nat) {x : Str} {p1 p2 p3 : Pos} {ds : List D} (hi : ρ[i]? = some (.ow (.lst ds))) (he : ED X ρ e d) (hl : ds.length < sizeLine) (hΦ : Φ (.nx (ρ.set i (.ow (.lst (ds ++ [d]))))))
    (hpe : ∀ {ta : TA}, PA X [e] ta → PS X (.Expr (.Call (.Attribute (.Name x p1) "append" p2) [e] [] p3) pos) (tDrop (tBM X.K "list" rAppend (tVar i) ta))) (hs : starEach [e] X.env = (false, eval e X.env) :: starEach [] X.env := by rfl) :
    WS X (.Expr (.Call (.Attribute (.Name x p1) "append" p2) [e] [] p3) pos) ρ Φ := fun B0 B σ H0 H Dn j k => by
  obtain ⟨ov, e1, a, o, rfl, h1, h2, h3, vs, rfl, r⟩ := j.get hi
  refine ⟨_, hpe pa_star, .ref a, e1, Or.inl ⟨rfl, _, Or.inl (Or.inl h1)⟩, ad_cons (X := X) he ad_nil hs B0 B σ H0 H _ j fun ws G0 G g rr => ?_⟩
  obtain ⟨y, rfl, ry⟩ := rr.one'
  have j1 := j.grow g
  obtain ⟨ov', e1', a', o', e2, h1', _, _, vs', rfl, r'⟩ := j1.get hi
  rw [e1] at e1'; cases e1'; cases e2
  refine ⟨a, vs', y, rfl, rfl, h1', by rw [← DRs.length r']; exact hl, ?_⟩
  exact k _ hΦ _ G0 _ (j1.write hi e1 ⟨_, rfl, DRs.app r' (DRs.one ry)⟩)
/-- for: I by the turn and the slots -/
theorem ws_for {tg iter : Expr} {body : List Stmt} {ds : List D} (hc : X.calm = true) (hi : ID X ρ tg iter ds) (I : Nat → En → Prop) (h0 : I 0 ρ)
    (hs : ∀ i d ρ', ds[i]? = some d → I i ρ' → ∃ is ρ'', DG X is tg d ρ' ρ'' ∧ WSs X body ρ'' (fun o => match o with | .nx r => I (i + 1) r | .ct r => I (i + 1) r | .bk r => Φ (.nx r) | .rt v => Φ (.rt v) | .ro c => Φ (.ro c) | .rc v cs => Φ (.rc v cs))) (hd : ∀ ρ', I ds.length ρ' → Φ (.nx ρ'))
    (hp : PassesOwn (model X.prog X.w) X.A X.env X.xe := by exact PassesOwn.never) (hf : ∀ x, foldedSetIterable iter X.env x = pure x := by intro _; rfl) : WS X (.For tg iter body [] pos) ρ Φ := fun B0 B σ H0 H Dn j k => by
  refine ⟨_, ps_for hp hc pi_star pg_star pss_star hf, hi B0 B σ H0 H _ j fun Jt G0 G g0 ⟨GG, Y, w, hG, hY⟩ => ?_⟩
  have j0 := j.grow g0
  refine for_it w (fun i σ' H1 => ∃ ρ' L0, I i ρ' ∧ J X.K G0 B σ' L0 H1 ρ') ⟨ρ, G0, h0, j0.rebase⟩ (fun i σ' H1 _ ⟨ρ', L0, _, j1⟩ => hG L0 H1 j1.hp.s0 j1.hp.sh) ?_ ?_
  · rintro i x σ1 H1 H1' hi ⟨ρ1, L0, hI, j1⟩ hy
    obtain ⟨d, hd'⟩ : ∃ d, ds[i]? = some d := ⟨ds[i], by simp [hi]⟩
    obtain ⟨L1, g2, rx⟩ := hY i L0 H1 x H1' d hd' j1.hp.s0 j1.hp.sh hy
    obtain ⟨is, ρ2, hg, hb⟩ := hs i d ρ1 hd' hI
    refine hg G0 B σ1 L1 H1' x _ (j1.grow g2) rx fun σ2 j2 _ => ?_
    refine hb G0 B σ2 L1 H1' _ j2 fun o ho => ?_
    cases o with
    | nx r => exact fun σ3 M0 M j3 => ⟨r, M0, ho, j3⟩
    | ct r => exact fun σ3 M0 M j3 => ⟨r, M0, ho, j3⟩
    | bk r => exact fun σ3 M0 M j3 => k _ ho σ3 M0 M (j0.unbase j3)
    | rt v => exact fun v' M0 M g r => k _ ho v' M0 M ⟨j0.hp.s0.trans g.s0, g.sh, g.sB, fun b u e n e' => g.fr b u e n (j0.hp.fr b u e n e')⟩ r
    | ro c => exact fun a o M0 M g h1 h2 h3 r => k _ ho a o M0 M ⟨j0.hp.s0.trans g.s0, g.sh, g.sB, fun b u e n e' => g.fr b u e n (j0.hp.fr b u e n e')⟩ h1 h2 h3 r
    | rc v cs => exact fun a M0 M g h1 h2 r => k _ ho a M0 M ⟨j0.hp.s0.trans g.s0, g.sh, g.sB, fun b u e n e' => g.fr b u e n (j0.hp.fr b u e n e')⟩ h1 h2 r
  · rintro σ1 H1 ⟨ρ1, L0, hI, j1⟩
    exact k _ (hd ρ1 hI) σ1 L0 H1 (j0.unbase j1)
end
end DL
namespace DL
open PySem PySem.Spec PyProof.Rows L2
def en (N : List Str) (ds : List D) : En := ds.map Sl.sh ++ List.replicate (N.length - ds.length) Sl.no
section
variable {P : Program} {w : World} {K : PySem.W.Frag} {mg : Str → Option Value} {base : Heap}
theorem en_kind {N : List Str} {ds : List D} {i : Nat} {s : Sl} (h : (en N ds)[i]? = some s) : s = .no ∨ ∃ d, s = .sh d := by
  unfold en at h
  by_cases hi : i < ds.length
  · rw [List.getElem?_append_left (by simpa using hi), List.getElem?_map, show ds[i]? = some ds[i] by simp [hi]] at h
    cases h; exact .inr ⟨_, rfl⟩
  · rw [List.getElem?_append_right (by simp; omega), List.getElem?_replicate] at h
    split at h
    · cases h; exact .inl rfl
    · cases h
theorem j_start {N : List Str} {H0 H : Hp} {ds : List D} {vs : List V} (s : Same H0 H) (r : DRs K H0 ds vs) (hl : ds.length ≤ N.length) : J K H0 H (L2.start N vs) H0 H (en N ds) := by
  have hlen := DRs.length r
  refine ⟨JH.refl s, by simp [L2.start, en, hlen], fun i sl ov h1 h2 => ?_, fun i j s1 s2 o1 o2 a h1 _ _ _ w _ => absurd w (Owns.none (en_kind h1) a)⟩
  unfold en at h1
  unfold L2.start at h2
  by_cases hi : i < ds.length
  · rw [List.getElem?_append_left (by simpa using hi), List.getElem?_map] at h1
    rw [List.getElem?_append_left (by simp; omega), List.getElem?_map] at h2
    obtain ⟨v, e1, e2⟩ := DRs.get r (show ds[i]? = some ds[i] by simp [hi])
    rw [show ds[i]? = some ds[i] by simp [hi]] at h1
    rw [e1] at h2
    cases h1; cases h2
    exact ⟨v, rfl, e2⟩
  · rw [List.getElem?_append_right (by simp; omega), List.getElem?_replicate] at h1
    split at h1
    · cases h1; trivial
    · cases h1
/-- the context of a def's body -/
abbrev bx (P : Program) (w : World) (K : PySem.W.Frag) (mg : Str → Option Value) (base : Heap) (N : List Str) (qual : Str) (st : Stmt) (f : Addr) (cdv : Value) (A : Around) (outer : List Env) (s : Shared) (H : Hp) (E : XK) : Cx :=
  (cxOf CX0 P w K mg base N qual (defScope st) f cdv A outer s H E).nox
theorem fn_ok {x qual : Str} {st : Stmt} {f : Addr} {fd : FuncData} {N ps : List Str} {k : Nat} {R : List D → D → Prop} (F : Fun K x qual st f fd) (S : FnScope N ps (defScope st)) (hR : ∀ ds d, R ds d → ds.length = ps.length)
    (h : ∀ ds d, R ds d → ∀ (cdv : Value) (A : Around) (outer : List Env) (s : Shared) (H : Hp) (E : XK), Room k (A.deeper (envOfC qual (defScope st) s.heap.objs.size f cdv)) →
      WSs (bx P w K mg base N qual st f cdv A outer s H E) (defBody st) (en N ds) (fun o => o = .rt d ∨ (∃ ρ, o = .nx ρ ∧ d = .non))) : FnOk P w K mg base CX0 (k + 1) f fd ps (spR K R) := by
  refine F.ok S (fun vs H Q E hs => ?_) fun cdv A outer s H vs Q E hr hs => ?_
  · obtain ⟨H0, ds, d, _, r, q, _⟩ := hs
    rw [← DRs.length r]; exact hR ds d q
  · obtain ⟨H0, ds, d, s0, r, q, kk⟩ := hs
    have hN : ds.length ≤ N.length := by
      have h1 := hR ds d q
      have h2 := congrArg List.length S.pre
      rw [List.length_take] at h2
      omega
    obtain ⟨t, h1, h2⟩ := h ds d q cdv A outer s H E hr H0 H (L2.start N vs) H0 H (j_start s0 r hN) (Dn := { nx := fun _ H' => Q .non H', rt := Q }) fun o ho => by
      rcases ho with rfl | ⟨ρ, rfl, rfl⟩
      · exact fun v G0 G g rv => kk v G0 G g rv
      · exact fun σ G0 G j => kk .non G0 G j.hp rfl
    exact ⟨t, h1, h2⟩
/-- what a law promises -/
inductive RLaw : List D → D → Prop where
  | mk (ns : List Int) (h : ns.length ≤ 63) : RLaw [.lst (ns.map .int)] (.bl true)
def spLaw (K : PySem.W.Frag) : Sp := fun vs H Q _ => ∃ (a : Addr) (ns : List Int), vs = [.ref a] ∧ SqL K H a (ns.map V.int) ∧ ns.length ≤ 63 ∧ ∀ H', Q (.bl true) H'
theorem law_sp {k : Nat} {f : Addr} {fd : FuncData} {ps : List Str} (F : FnOk P w K mg base CX0 k f fd ps (spR K RLaw)) : FnOk P w K mg base CX0 k f fd ps (spLaw K) :=
  F.imp fun vs H Q E ⟨a, ns, e, hS, hl, q⟩ => ⟨H, [.lst (ns.map .int)], .bl true, Same.refl H, by rw [e]; exact ⟨.ref a, [], rfl, ⟨a, _, rfl, hS, DRs.ofInts ns⟩, rfl⟩, ⟨ns, hl⟩, fun r H0' H' g rr => by
    cases (show r = .bl true from rr); exact q H'⟩
theorem walk_law {l : PySem.W.OpenLaw} {q : Program} {loose : List Str} {XP : (Str → Option Value) → Heap → Prop} {YP : World → Heap → Prop} {d : DefRec} {K : Params → PySem.W.Frag} {k : Nat} (hn : l.most = some 63) (hr : Room k callerA) (hdf : d.params.defaults = [])
    (hY : ∀ (w : World) (h : Heap), YP w h → (K w.params).In h)
    (F : ∀ (w : World) (mg : Str → Option Value) (fa : Addr) (h : Heap), (K w.params).In h → h.Ns mainGlobals mg → mg d.name = some (.ref fa) →
      ∃ fd : FuncData, (∀ (s : Shared) (u : Value), BindsTo s fd ⟨[u], []⟩ [("script", u)]) ∧ ∀ base : Heap, (K w.params).In base → base.Ns mainGlobals mg → FnOk l.prog w (K w.params) mg base CX0 k fa fd ["script"] (spR (K w.params) RLaw)) :
    PySem.W.WalkO q loose XP YP l.row.toRowW d [] (fun f vs => PySem.call f vs) :=
  L2.walk_of (n := 63) (k := k) (x := "script") (CX := fun _ => CX0) (sp := fun w => spLaw (K w.params)) hn (by decide) hdf hr hY
    (fun w mg fa h KX G e => let ⟨fd, h1, h2⟩ := F w mg fa h KX G e; ⟨fd, h1, fun base b1 b2 => law_sp (h2 base b1 b2)⟩) (fun _ _ a ns hl _ hS => ⟨a, ns, rfl, hS, hl, fun _ => rfl⟩) fun _ _ _ _ _ z => z
end
section
variable {X : Cx} {ρ : En}
/-- an item of a list, a tuple, a text -/
inductive IX : D → D → D → Prop where
  | t {ds i d} (h : atI ds i = some d) : IX (.tup ds) (.int i) d
  | l {ds i d} (h : atI ds i = some d) : IX (.lst ds) (.int i) d
theorem IX.t0 {a r} : IX (.tup (a :: r)) (.int 0) a := .t (by unfold atI ixN; simp only [List.length_cons]; rw [if_pos (by decide), if_pos (by omega)]; rfl)
theorem IX.t1 {a b r} : IX (.tup (a :: b :: r)) (.int 1) b := .t (by unfold atI ixN; simp only [List.length_cons]; rw [if_pos (by decide), if_pos (by omega)]; rfl)
theorem IX.t2 {a b c r} : IX (.tup (a :: b :: c :: r)) (.int 2) c := .t (by unfold atI ixN; simp only [List.length_cons]; rw [if_pos (by decide), if_pos (by omega)]; rfl)
theorem IX.t3 {a b c d r} : IX (.tup (a :: b :: c :: d :: r)) (.int 3) d := .t (by unfold atI ixN; simp only [List.length_cons]; rw [if_pos (by decide), if_pos (by omega)]; rfl)
theorem IX.t4 {a b c d e r} : IX (.tup (a :: b :: c :: d :: e :: r)) (.int 4) e := .t (by unfold atI ixN; simp only [List.length_cons]; rw [if_pos (by decide), if_pos (by omega)]; rfl)
theorem IX.t5 {a b c d e f r} : IX (.tup (a :: b :: c :: d :: e :: f :: r)) (.int 5) f := .t (by unfold atI ixN; simp only [List.length_cons]; rw [if_pos (by decide), if_pos (by omega)]; rfl)
theorem IX.l0 {a r} : IX (.lst (a :: r)) (.int 0) a := .l (by unfold atI ixN; simp only [List.length_cons]; rw [if_pos (by decide), if_pos (by omega)]; rfl)
theorem IX.l1 {a b r} : IX (.lst (a :: b :: r)) (.int 1) b := .l (by unfold atI ixN; simp only [List.length_cons]; rw [if_pos (by decide), if_pos (by omega)]; rfl)
theorem IX.l2 {a b c r} : IX (.lst (a :: b :: c :: r)) (.int 2) c := .l (by unfold atI ixN; simp only [List.length_cons]; rw [if_pos (by decide), if_pos (by omega)]; rfl)
theorem ed_ix {a b : Expr} {d1 d2 d : D} {pos : Pos} (ha : ED X ρ a d1) (hb : ED X ρ b d2) (h : IX d1 d2 d) (hs : PlainIx b := by exact fun _ _ => rfl) : ED X ρ (.Subscript a b pos) d := by
  cases h with
  | t h => exact ix_t ha hb h hs
  | l h => exact ix_l ha hb h hs
theorem atI_nn {α : Type} {xs : List α} {i : Int} {v : α} (h0 : 0 ≤ i) (h : xs[i.toNat]? = some v) : atI xs i = some v := by
  have e : ((i.toNat : Nat) : Int) = i := Int.toNat_of_nonneg h0
  rw [← e]; exact atI_nat h
/-- isinstance of a built-in class -/
def tyD : D → Option String
  | .non => some "NoneType" | .bl _ => some "bool" | .int _ => some "int" | .str _ => some "str"
  | .lst _ => some "list" | .tup _ => some "tuple" | .dk _ _ => some "dict" | .dt _ _ => none | .obj _ _ _ => none | .ad _ => none | .ptp _ => none | .etp _ => none | .exc _ _ _ _ => none | .ty _ => none
theorem tyx_of {K : PySem.W.Frag} {H : Hp} {d : D} {v : V} {n : String} (h : DR K H d v) (hn : tyD d = some n) (hnn : n ≠ "NoneType") : TyX K H v (.type n) := by
  cases d with
  | non => cases hn; exact absurd rfl hnn
  | bl _ => cases (show v = .bl _ from h); cases hn; exact .base (.bl _)
  | int _ => cases (show v = .int _ from h); cases hn; exact .base (.int _)
  | str _ => cases (show v = .str _ from h); cases hn; exact .base (.str _)
  | lst _ =>
    obtain ⟨a, vs, rfl, h1, _⟩ := h
    cases hn
    rcases h1 with (h1 | ⟨o, h1⟩) | ⟨o, its, n, h1, h2, _⟩
    · exact .base (.lst h1)
    · exact .base (.frz h1)
    · exact .kList h1 h2
  | tup _ =>
    obtain ⟨a, vs, rfl, h1, _⟩ := h
    cases hn
    rcases h1 with (h1 | ⟨o, h1⟩) | ⟨o, its, n, h1, h2, _⟩
    · exact .base (.tup h1)
    · exact .fTuple h1
    · exact .kTuple h1 h2
  | dk _ _ =>
    obtain ⟨a, vs, rfl, h1, _⟩ := h
    cases hn
    rcases h1 with h1 | ⟨o, h1⟩
    · exact .base (.dK h1)
    · exact .fDict h1
  | dt _ _ => cases hn
  | obj _ _ _ => cases hn
  | ad _ => cases hn
  | ptp _ => cases hn
  | etp _ => cases hn
  | exc _ _ _ _ => cases hn
  | ty _ => cases hn
theorem bc_isi {d : D} {n c : String} {b : Bool} (hn : tyD d = some n) (h : kitB n c = some b) (hnn : n ≠ "NoneType" := by decide) : BC X (.builtin "isinstance") [d, .ty c] (.bl b) :=
  bc_keep call_isi _ (fun _ => rfl) fun H0 H vs _ s r q => by
    obtain ⟨x, y, rfl, h1, h2⟩ := r.two
    cases (show y = .ty c from h2)
    exact ⟨x, .ty c, .type n, .type c, b, rfl, .ty c, tyx_of (DR.mono s _ _ h1) hn hnn, kit_ty h, q⟩
theorem ed_ty {x : Str} {n : String} {pos : Pos} (hg : Gl X x) (hm : X.mg x = none) (hv : bootBuiltins x = some (.type n)) (hn : x ≠ "__name__" := by decide) (hd : (x == ("__debug__" : Str)) = false := by decide) : ED X ρ (.Name x pos) (.ty n) :=
  fun B0 B σ H0 H Q j k => RE.of (pe_bltn (v := .ty n) hg hm hv rfl hn hd) (k _ H0 H (JH.refl j.same) rfl)
theorem filterMap_some {α β : Type} (f : α → β) : ∀ xs : List α, (xs.map fun x => some (f x)).filterMap id = xs.map f
  | [] => rfl
  | x :: xs => by simp [filterMap_some f xs]
section
variable {elt tg iter : Expr} {ifs : List Expr} {scope : Scope} {ds : List D} {cpos pos : Pos} {α β : Type} {Φ : Out → Prop}
theorem turns_map {own : List (Str × Nat)} {xs : List α} {enc : α → D} {f : α → D} (he : ds = xs.map enc) (turn : ∀ x ∈ xs, Turn1 X ρ scope (own.map (·.2)) tg elt ifs (enc x) (some (f x))) :
    ∀ (i : Nat) d y, ds[i]? = some d → (xs.map fun x => some (f x))[i]? = some y → Turn1 X ρ scope (own.map (·.2)) tg elt ifs d y := by
  subst he
  intro i d y h1 h2
  rw [List.getElem?_map] at h1 h2
  cases q : xs[i]? with
  | none => rw [q] at h1; cases h1
  | some x =>
    rw [q] at h1 h2
    cases h1; cases h2
    exact turn x (List.mem_of_getElem? q)
/-- [f x for x in xs] -/
theorem eo_map (own : List (Str × Nat)) (xs : List α) (enc : α → D) (f : α → D) (hc : X.calm = true) (hN : X.N.Nodup) (ok : BlkOk X.N X.env.scope scope own) (hi : ID X ρ tg iter ds) (he : ds = xs.map enc) (turn : ∀ x ∈ xs, Turn1 X ρ scope (own.map (·.2)) tg elt ifs (enc x) (some (f x))) (hl : xs.length ≤ sizeLine)
    (hs : ∀ x, foldedSetIterable iter X.env x = pure x := by intro _; rfl) : EO X ρ (.ListComp elt [⟨tg, iter, ifs, 0⟩] scope cpos) (.lst (xs.map f)) := by
  have h := eo_lc (cpos := cpos) own hc hN ok hi (xs.map fun x => some (f x)) (by rw [he]; simp) (turns_map he turn) (by rw [he]; simpa using hl) hs
  rwa [filterMap_some] at h
theorem ws_setMap (i : Nat) (own : List (Str × Nat)) (xs : List α) (enc : α → D) (f : α → D) {y : Str} {py : Pos} (hc : X.calm = true) (hN : X.N.Nodup) (ok : BlkOk X.N X.env.scope scope own) (hi : ID X ρ tg iter ds) (he : ds = xs.map enc) (turn : ∀ x ∈ xs, Turn1 X ρ scope (own.map (·.2)) tg elt ifs (enc x) (some (f x))) (hl : xs.length ≤ sizeLine)
    (hΦ : Φ (.nx (ρ.set i (.ow (.lst (xs.map f)))))) (hy : X.N[i]? = some y := by rfl) (hyl : X.env.scope.names.lookup y = some .local := by rfl)
    (hsw : swapsWith (.ListComp elt [⟨tg, iter, ifs, 0⟩] scope cpos) (some (.Name y py)) pos.line X.env = pure true := by exact sw_true rfl rfl rfl (by decide +kernel)) (hs : ∀ x, foldedSetIterable iter X.env x = pure x := by intro _; rfl) :
    WS X (.Assign [.Name y py] (.ListComp elt [⟨tg, iter, ifs, 0⟩] scope cpos) pos) ρ Φ :=
  ws_setLc i own hc hN ok hi (xs.map fun x => some (f x)) (by rw [he]; simp) (turns_map he turn) (by rw [he]; simpa using hl) (by rw [filterMap_some]; exact hΦ) hy hyl hsw hs
/-- for x in xs: I by the turn and the slots -/
theorem ws_forT (xs : List α) (enc : α → D) {body : List Stmt} (hc : X.calm = true) (hi : ID X ρ tg iter ds) (he : ds = xs.map enc) (I : Nat → En → Prop) (h0 : I 0 ρ)
    (hs : ∀ i x ρ', xs[i]? = some x → I i ρ' → ∃ is ρ'', DG X is tg (enc x) ρ' ρ'' ∧ WSs X body ρ'' (fun o => match o with | .nx r => I (i + 1) r | .ct r => I (i + 1) r | .bk r => Φ (.nx r) | .rt v => Φ (.rt v) | .ro c => Φ (.ro c) | .rc v cs => Φ (.rc v cs))) (hd : ∀ ρ', I xs.length ρ' → Φ (.nx ρ'))
    (hp : PassesOwn (model X.prog X.w) X.A X.env X.xe := by exact PassesOwn.never) (hf : ∀ x, foldedSetIterable iter X.env x = pure x := by intro _; rfl) : WS X (.For tg iter body [] pos) ρ Φ := by
  subst he
  refine ws_for hc hi I h0 (fun i d ρ' h1 h2 => ?_) (by simpa using hd) hp hf
  rw [List.getElem?_map] at h1
  cases q : xs[i]? with
  | none => rw [q] at h1; cases h1
  | some x =>
    rw [q] at h1
    cases h1
    exact hs i x ρ' q h2
end
def tru : D → Option Bool
  | .non => some false | .bl b => some b | .int i => some (i != 0) | .lst ds => some (!ds.isEmpty) | .tup ds => some (!ds.isEmpty) | _ => none
theorem DRs.emp {K : PySem.W.Frag} {H : Hp} {ds : List D} {vs : List V} (h : DRs K H ds vs) : vs.isEmpty = ds.isEmpty := by
  cases ds with
  | nil => cases (show vs = [] from h); rfl
  | cons d ds => obtain ⟨v, r, rfl, _⟩ := h; rfl
theorem td_truth {e : Expr} {d : D} {k : Bool} (h : ED X ρ e d) (hk : tru d = some k) (he : ∀ whole, isTrue e X.env whole = (do let v ← whole; standAt e.pos; holding [v] (truthy v)) := by intro _; rfl) : TD X ρ e k := fun B0 B σ H0 H Q j kk =>
  RT.of (pt_truth pe_star he) (h B0 B σ H0 H _ j fun v H0' H' g r => by
    cases d with
    | non => cases (show v = .non from r); cases hk; exact ⟨_, rfl, kk _ _ g⟩
    | bl _ => cases (show v = .bl _ from r); cases hk; exact ⟨_, rfl, kk _ _ g⟩
    | int _ => cases (show v = .int _ from r); cases hk; exact ⟨_, rfl, kk _ _ g⟩
    | lst ds =>
      obtain ⟨a, vs, rfl, h1, h2⟩ := r
      cases hk
      exact ⟨_, .inl ⟨vs, g.sh.seq h1, rfl⟩, by rw [h2.emp]; exact kk _ _ g⟩
    | tup ds =>
      obtain ⟨a, vs, rfl, h1, h2⟩ := r
      cases hk
      exact ⟨_, .inr (.inl ⟨vs, Same.seqT g.sh h1, rfl⟩), by rw [h2.emp]; exact kk _ _ g⟩
    | str _ => cases hk
    | ty _ => cases hk
    | dk _ _ => cases hk
    | dt _ _ => cases hk
    | obj _ _ _ => cases hk
    | ad _ => cases hk
    | ptp _ => cases hk
    | etp _ => cases hk
    | exc _ _ _ _ => cases hk)
theorem fn_wrap {P : Program} {w : World} {K : PySem.W.Frag} {mg : Str → Option Value} {base : Heap} {x : Str} {f : Addr} {fd : FuncData} {ps : List Str} {k : Nat} {R : List D → D → Prop} (hm : mg x = some (.ref f)) (hb : Binds K fd ps []) (kp : PySem.W.keepIn K (.ref f) = true) (F : FnOk P w K mg base CX0 k f fd ps (spR K R)) :
    Fn P w K mg base x k R := ⟨⟨f, fd, ps, F, hm, kp, hb⟩⟩
theorem b2_powL {i j n : Int} (h : CPow i j) (e : i ^ j.toNat = n) : B2 X .Pow (.int i) (.int j) (.int n) := e ▸ b2_pow h
inductive Part (X : Cx) (ρ : En) : Option Expr → Option Int → Prop where
  | none : Part X ρ none none
  | some {e i} (h : ED X ρ e (.int i)) : Part X ρ (some e) (some i)
theorem no_part : Part X ρ none none := .none
theorem some_part {e i} (h : ED X ρ e (.int i)) : Part X ρ (some e) (some i) := .some h
def RP (X : Cx) (e : Option Expr) : TO := fun σ H Q => ∃ t, PO X e t ∧ t σ H Q
theorem po_star {e} : PO X e (RP X e) := ⟨fun pins s σ H Q I ⟨_, h, q⟩ => h.run pins s σ H Q I q⟩
theorem Part.run {e : Option Expr} {o : Option Int} (h : Part X ρ e o) {B0 B : Hp} {σ : L2.St} {H0 H : Hp} {Q : Option Int → Hp → Prop} (j : J X.K B0 B σ H0 H ρ) (k : ∀ H0' H', JH H0 H H0' H' → Q o H') : RP X e σ H Q := by
  cases h with
  | none => exact ⟨_, po_none, k H0 H (JH.refl j.same)⟩
  | some h => exact ⟨_, po_some pe_star, h B0 B σ H0 H _ j fun v H0' H' g r => ⟨_, r, k H0' H' g⟩⟩
def cutD (xs : List D) (lo hi : Option Int) : List D := (xs.drop (HT.sIx xs.length 0 lo)).take (HT.sIx xs.length xs.length hi - HT.sIx xs.length 0 lo)
theorem DRs.cut {K : PySem.W.Frag} {H : Hp} {ds : List D} {vs : List V} (h : DRs K H ds vs) (lo hi : Option Int) : DRs K H (cutD ds lo hi) (cutV vs lo hi) := by
  unfold cutD cutV
  rw [← DRs.length h]
  exact DRs.take _ (DRs.drop _ h)
theorem eo_slice {e : Expr} {lo hi : Option Expr} {p q : Option Int} {ds : List D} {p2 pos : Pos} (he : ED X ρ e (.lst ds)) (hl : Part X ρ lo p) (hh : Part X ρ hi q) : EO X ρ (.Subscript e (.Slice lo hi none p2) pos) (.lst (cutD ds p q)) := fun B0 B σ H0 H Q j k =>
  RE.of (pe_slice sl_list pe_star po_star po_star) (he B0 B σ H0 H _ j fun v G0 G g1 r => hl.run (j.grow g1) fun L0 L g2 => hh.run ((j.grow g1).grow g2) fun M0 M g3 => by
    obtain ⟨a, vs, rfl, h1, h2⟩ := r
    have g := g2.trans g3
    exact ⟨a, vs, rfl, g.sh.seq (g.s0.seq h1), fun p hp => k p _ M0 _ ((g1.trans g).trans (JH.own g.sh hp)) upd_same (g.sh.free hp) ((g1.trans g).sB.free hp) ⟨_, rfl, DRs.cut (DRs.mono g.s0 _ _ h2) _ _⟩⟩)
theorem rngD0 (n : Nat) : rngD 0 n = (List.range n).map fun (i : Nat) => D.int (i : Int) := by
  unfold rngD
  refine List.map_congr_left fun i _ => ?_
  rw [Int.zero_add]
/-- some slots changed -/
def upds (ρ : En) (l : List (Nat × Sl)) : En := l.foldl (fun r p => r.set p.1 p.2) ρ
/-- for x in xs: what changes from turn to turn is told slot by slot: G, of the turn and of what one doesn't care for (V reads it off) -/
theorem ws_forU {α U : Type} {tg iter : Expr} {ds : List D} {pos : Pos} {Φ : Out → Prop} (xs : List α) (enc : α → D) {body : List Stmt} (hc : X.calm = true) (hi : ID X ρ tg iter ds) (he : ds = xs.map enc) (G : Nat → U → List (Nat × Sl)) (V : En → U) (P : Nat → Prop) (hρ : upds ρ (G 0 (V ρ)) = ρ) (h0 : P 0)
    (hs : ∀ i x u, xs[i]? = some x → P i → ∃ is ρ'', DG X is tg (enc x) (upds ρ (G i u)) ρ'' ∧ WSs X body ρ'' (fun o => match o with | .nx r => upds ρ (G (i + 1) (V r)) = r ∧ P (i + 1) | .ct r => upds ρ (G (i + 1) (V r)) = r ∧ P (i + 1) | .bk r => Φ (.nx r) | .rt v => Φ (.rt v) | .ro c => Φ (.ro c) | .rc v cs => Φ (.rc v cs)))
    (hd : ∀ u, P xs.length → Φ (.nx (upds ρ (G xs.length u))))
    (hp : PassesOwn (model X.prog X.w) X.A X.env X.xe := by exact PassesOwn.never) (hf : ∀ x, foldedSetIterable iter X.env x = pure x := by intro _; rfl) : WS X (.For tg iter body [] pos) ρ Φ := by
  refine ws_forT xs enc hc hi he (fun i r => (∃ u, upds ρ (G i u) = r) ∧ P i) ⟨⟨V ρ, hρ⟩, h0⟩ (fun i x r hx hI => ?_) (fun r hI => ?_) hp hf
  · obtain ⟨⟨u, rfl⟩, p⟩ := hI
    obtain ⟨is, r2, h1, h2⟩ := hs i x u hx p
    refine ⟨is, r2, h1, ws_mono h2 fun o ho => ?_⟩
    cases o with
    | nx r => exact ⟨⟨_, ho.1⟩, ho.2⟩
    | ct r => exact ⟨⟨_, ho.1⟩, ho.2⟩
    | bk r => exact ho
    | rt v => exact ho
    | ro c => exact ho
    | rc v cs => exact ho
  · obtain ⟨⟨u, rfl⟩, p⟩ := hI
    exact hd u p
end
theorem bb_len : bootBuiltins (PySem.Str.ofString "len") = some (.builtin "len") := by decide +kernel
theorem bb_max : bootBuiltins (PySem.Str.ofString "max") = some (.builtin "max") := by decide +kernel
theorem bb_all : bootBuiltins (PySem.Str.ofString "all") = some (.builtin "all") := by decide +kernel
theorem bb_isinstance : bootBuiltins (PySem.Str.ofString "isinstance") = some (.builtin "isinstance") := by decide +kernel
theorem bb_int : bootBuiltins (PySem.Str.ofString "int") = some (.type "int") := by decide +kernel
theorem bb_tuple : bootBuiltins (PySem.Str.ofString "tuple") = some (.type "tuple") := by decide +kernel
theorem bb_list : bootBuiltins (PySem.Str.ofString "list") = some (.type "list") := by decide +kernel
theorem bb_str : bootBuiltins (PySem.Str.ofString "str") = some (.type "str") := by decide +kernel
theorem bb_bool : bootBuiltins (PySem.Str.ofString "bool") = some (.type "bool") := by decide +kernel
theorem bb_set : bootBuiltins (PySem.Str.ofString "set") = some (.type "set") := by decide +kernel
end DL
namespace DL
open PySem PySem.Spec PyProof.Rows L2
/-- data of ints and short texts, n deep -/
def smallStr (x : Str) : Prop := PyData.strOk x = true
inductive Cm : Nat → D → Prop where
  | int {n i} : Cm n (.int i)
  | str {n x} (h : smallStr x) : Cm n (.str x)
  | tup {n ds} (h : ∀ d ∈ ds, Cm n d) : Cm (n + 1) (.tup ds)
  | lst {n ds} (h : ∀ d ∈ ds, Cm n d) : Cm (n + 1) (.lst ds)
theorem Cm.mono {n m : Nat} (h : n ≤ m) {d : D} (c : Cm n d) : Cm m d := by
  induction c generalizing m with
  | int => exact .int
  | str q => exact .str q
  | tup _ ih =>
    obtain ⟨m, rfl⟩ : ∃ m', m = m' + 1 := ⟨m - 1, by omega⟩
    exact .tup fun d hd => ih d hd (by omega)
  | lst _ ih =>
    obtain ⟨m, rfl⟩ : ∃ m', m = m' + 1 := ⟨m - 1, by omega⟩
    exact .lst fun d hd => ih d hd (by omega)
theorem plains_iff : ∀ {ds : List D}, (∀ d ∈ ds, d.plain = true) → D.plains ds = true
  | [], _ => by simp [D.plains]
  | d :: ds, h => by simp only [D.plains, Bool.and_eq_true]; exact ⟨h d (by simp), plains_iff fun e he => h e (by simp [he])⟩
theorem lays_iff : ∀ {ds : List D}, (∀ d ∈ ds, d.py.canLay0 = true) → PyData.canLayAll0 (D.pys ds) = true
  | [], _ => by simp [D.pys, PyData.canLayAll0]
  | d :: ds, h => by simp only [D.pys, PyData.canLayAll0, Bool.and_eq_true]; exact ⟨h d (by simp), lays_iff fun e he => h e (by simp [he])⟩
theorem depths_le : ∀ {ds : List D} {n : Nat}, (∀ d ∈ ds, d.py.depth ≤ n) → PyData.depthAll (D.pys ds) ≤ n
  | [], n, _ => by simp [D.pys, PyData.depthAll]
  | d :: ds, n, h => by
    simp only [D.pys, PyData.depthAll]
    have h1 := h d (by simp)
    have h2 := depths_le (ds := ds) (n := n) fun e he => h e (by simp [he])
    omega
theorem Cm.plain {n : Nat} {d : D} (c : Cm n d) : d.plain = true := by
  induction c with
  | int => simp [D.plain]
  | str _ => simp [D.plain]
  | tup _ ih => simp only [D.plain]; exact plains_iff ih
  | lst _ ih => simp only [D.plain]; exact plains_iff ih
theorem Cm.lay {n : Nat} {d : D} (c : Cm n d) : d.py.canLay0 = true := by
  induction c with
  | int => simp [D.py, PyData.canLay0]
  | str h => simp only [D.py, PyData.canLay0]; exact h
  | tup _ ih => simp only [D.py, PyData.canLay0]; exact lays_iff ih
  | lst _ ih => simp only [D.py, PyData.canLay0]; exact lays_iff ih
theorem Cm.depth {n : Nat} {d : D} (c : Cm n d) : d.py.depth ≤ n + 1 := by
  induction c with
  | int => simp [D.py, PyData.depth]
  | str _ => simp [D.py, PyData.depth]
  | tup _ ih => simp only [D.py, PyData.depth]; have := depths_le ih; omega
  | lst _ ih => simp only [D.py, PyData.depth]; have := depths_le ih; omega
theorem Cm.cmp {n : Nat} {d : D} (c : Cm n d) (hn : n ≤ 63) : Cmp d := ⟨c.plain, by
  unfold SeqAt.shaped
  rw [c.lay]
  have := c.depth
  simp; omega⟩
theorem Cm.inv {n : Nat} {d : D} (c : Cm n d) : (∃ i, d = .int i) ∨ (∃ x, d = .str x) ∨ (∃ ds m, d = .tup ds ∧ n = m + 1 ∧ ∀ e ∈ ds, Cm m e) ∨ (∃ ds m, d = .lst ds ∧ n = m + 1 ∧ ∀ e ∈ ds, Cm m e) := by
  cases c with
  | int => exact .inl ⟨_, rfl⟩
  | str _ => exact .inr (.inl ⟨_, rfl⟩)
  | tup h => exact .inr (.inr (.inl ⟨_, _, rfl, rfl, h⟩))
  | lst h => exact .inr (.inr (.inr ⟨_, _, rfl, rfl, h⟩))
theorem eqvs_iff {n m : Nat} (ih : ∀ d e, Cm n d → Cm m e → (PyData.eqv d.py e.py = true ↔ d = e)) : ∀ (ds es : List D), (∀ d ∈ ds, Cm n d) → (∀ e ∈ es, Cm m e) → (PyData.eqvAll (D.pys ds) (D.pys es) = true ↔ ds = es)
  | [], [], _, _ => by simp [D.pys, PyData.eqvAll]
  | [], e :: es, _, _ => by simp [D.pys, PyData.eqvAll]
  | d :: ds, [], _, _ => by simp [D.pys, PyData.eqvAll]
  | d :: ds, e :: es, h1, h2 => by
    have h3 := eqvs_iff ih ds es (fun x hx => h1 x (by simp [hx])) (fun x hx => h2 x (by simp [hx]))
    have h4 := ih d e (h1 d (by simp)) (h2 e (by simp))
    simp only [D.pys, PyData.eqvAll, Bool.and_eq_true, h3, h4, List.cons.injEq]
theorem eqv_iff : ∀ (n m : Nat) (d e : D), Cm n d → Cm m e → (PyData.eqv d.py e.py = true ↔ d = e)
  | n, m, d, e, c, c' => by
    rcases c.inv with ⟨i, rfl⟩ | ⟨x, rfl⟩ | ⟨ds, k, rfl, rfl, h⟩ | ⟨ds, k, rfl, rfl, h⟩ <;> rcases c'.inv with ⟨j, rfl⟩ | ⟨y, rfl⟩ | ⟨es, l, rfl, rfl, h'⟩ | ⟨es, l, rfl, rfl, h'⟩
    · simp [D.py, PyData.eqv]
    · simp [D.py, PyData.eqv]
    · simp [D.py, PyData.eqv]
    · simp [D.py, PyData.eqv]
    · simp [D.py, PyData.eqv]
    · simp [D.py, PyData.eqv]
    · simp [D.py, PyData.eqv]
    · simp [D.py, PyData.eqv]
    · simp [D.py, PyData.eqv]
    · simp [D.py, PyData.eqv]
    · simp only [D.py, PyData.eqv, D.tup.injEq]
      exact eqvs_iff (fun d e c c' => eqv_iff k l d e c c') ds es h h'
    · simp [D.py, PyData.eqv]
    · simp [D.py, PyData.eqv]
    · simp [D.py, PyData.eqv]
    · simp [D.py, PyData.eqv]
    · simp only [D.py, PyData.eqv, D.lst.injEq]
      exact eqvs_iff (fun d e c c' => eqv_iff k l d e c c') ds es h h'
theorem Cm.ints {n : Nat} {ns : List Int} : ∀ d ∈ ns.map D.int, Cm n d := fun d hd => by
  obtain ⟨i, _, rfl⟩ := List.mem_map.mp hd
  exact .int
section
variable {X : Cx} {ρ : En}
theorem c2_eqC {n m : Nat} {d e : D} {k : Bool} (hu : X.A.units + 64 < cLine) (c : Cm n d) (c' : Cm m e) (hk : k = true ↔ d = e) (hn : n ≤ 63 := by decide) (hm : m ≤ 63 := by decide) : C2 X .Eq d e (.bl k) := by
  refine c2_eqD hu (c.cmp hn) (c'.cmp hm) ?_
  have h := eqv_iff n m d e c c'
  cases k with
  | true => exact h.mpr (hk.mp rfl)
  | false =>
    cases q : PyData.eqv d.py e.py with
    | false => rfl
    | true => exact absurd (hk.mpr (h.mp q)) (by simp)
theorem c2_neC {n m : Nat} {d e : D} {k : Bool} (hu : X.A.units + 64 < cLine) (c : Cm n d) (c' : Cm m e) (hk : k = true ↔ d = e) (hn : n ≤ 63 := by decide) (hm : m ≤ 63 := by decide) : C2 X .NotEq d e (.bl (!k)) := by
  refine c2_neD hu (c.cmp hn) (c'.cmp hm) ?_
  have h := eqv_iff n m d e c c'
  cases k with
  | true => exact h.mpr (hk.mp rfl)
  | false =>
    cases q : PyData.eqv d.py e.py with
    | false => rfl
    | true => exact absurd (hk.mpr (h.mp q)) (by simp)
def KD (K : PySem.W.Frag) (d : D) (u : Value) : Prop := ∃ v, RelV v u ∧ ∀ H, DR K H d v
def KDs (K : PySem.W.Frag) (ds : List D) (us : List Value) : Prop := ∃ vs, Vals vs us ∧ ∀ H, DRs K H ds vs
theorem kd_int {K : PySem.W.Frag} {i : Int} {t : Tok} : KD K (.int i) (.int i t) := ⟨.int i, ⟨t, rfl⟩, fun _ => rfl⟩
theorem kd_bl {K : PySem.W.Frag} {b : Bool} : KD K (.bl b) (.bool b) := ⟨.bl b, rfl, fun _ => rfl⟩
theorem kd_str {K : PySem.W.Frag} {x : Str} {t : Tok} : KD K (.str x) (.str x t) := ⟨.str x, ⟨t, rfl⟩, fun _ => rfl⟩
theorem kds_nil {K : PySem.W.Frag} : KDs K [] [] := ⟨[], .nil, fun _ => rfl⟩
theorem kds_cons {K : PySem.W.Frag} {d : D} {ds : List D} {u : Value} {us : List Value} (h : KD K d u) (r : KDs K ds us) : KDs K (d :: ds) (u :: us) := by
  obtain ⟨v, h1, h2⟩ := h
  obtain ⟨vs, h3, h4⟩ := r
  exact ⟨v :: vs, .cons h1 h3, fun H => ⟨v, vs, rfl, h2 H, h4 H⟩⟩
theorem kd_tup {K : PySem.W.Frag} {a : Addr} {o : Obj} {ds : List D} {its : Array Value} {n : Nat} (l : K.lookup a = some o) (c : o.cls = .type "tuple") (e : o.data = .seq its n) (z : its.size ≤ sizeLine) (r : KDs K ds its.toList) : KD K (.tup ds) (.ref a) := by
  obtain ⟨vs, h1, h2⟩ := r
  exact ⟨.ref a, rfl, fun H => ⟨a, vs, rfl, .inr ⟨o, its, n, l, c, e, z, h1⟩, h2 H⟩⟩
structure Cst (K : PySem.W.Frag) (mg : Str → Option Value) (x : Str) (d : D) : Prop where
  ex : ∃ u, mg x = some u ∧ KD K d u
theorem ed_const {x : Str} {d : D} {pos : Pos} (h : Cst X.K X.mg x d) (hg : Gl X x) (hd : (x == ("__debug__" : Str)) = false := by decide) : ED X ρ (.Name x pos) d := fun B0 B σ H0 H Q j k => by
  obtain ⟨u, h1, v, h2, h3⟩ := h.ex
  exact RE.of (pe_glob hg h1 h2 hd) (k v H0 H (JH.refl j.same) (h3 H0))
inductive KWs (X : Cx) (ρ : En) : List Keyword → List D → Prop where
  | nil : KWs X ρ [] []
  | cons {nm e p kws d ds} (h : ED X ρ e d) (r : KWs X ρ kws ds) : KWs X ρ (⟨nm, e, p⟩ :: kws) (d :: ds)
def RK (X : Cx) (kws : List Keyword) : TA := fun σ H Q => ∃ t, PK X kws t ∧ t σ H Q
theorem pk_star {kws} : PK X kws (RK X kws) := ⟨fun pos pins s σ H Q I ⟨_, h, q⟩ => h.run pos pins s σ H Q I q⟩
theorem KWs.run {kws : List Keyword} {ds : List D} (h : KWs X ρ kws ds) : ∀ {B0 B : Hp} {σ : L2.St} {H0 H : Hp} {Q : List V → Hp → Prop}, J X.K B0 B σ H0 H ρ → (∀ vs H0' H', JH H0 H H0' H' → DRs X.K H0' ds vs → Q vs H') → RK X kws σ H Q := by
  induction h with
  | nil => exact fun j k => ⟨_, pk_nil, k [] _ _ (JH.refl j.same) rfl⟩
  | cons h r ih =>
    intro B0 B σ H0 H Q j k
    exact ⟨_, pk_cons pe_star pk_star, h B0 B σ H0 H _ j fun v G0 G g1 r1 => ih (j.grow g1) fun vs L0 L g2 r2 => k (v :: vs) L0 L (g1.trans g2) ⟨v, vs, rfl, DR.mono g2.s0 _ _ r1, r2⟩⟩
end
section
variable {X : Cx} {ρ : En}
theorem ed_ifI {c a b : Expr} {k : Bool} {i j : Int} {pos : Pos} (h : TD X ρ c k) (h1 : k = true → ED X ρ a (.int i)) (h2 : k = false → ED X ρ b (.int j)) : ED X ρ (.IfExp c a b pos) (.int (if k = true then i else j)) :=
  ed_if h (fun e => by subst e; exact h1 rfl) (fun e => by subst e; exact h2 rfl)
theorem ed_ifv {c a b : Expr} {k : Bool} {d e : D} {pos : Pos} (h : TD X ρ c k) (h1 : k = true → ED X ρ a d) (h2 : k = false → ED X ρ b e) : ED X ρ (.IfExp c a b pos) (if k = true then d else e) :=
  ed_if h (fun q => by subst q; exact h1 rfl) (fun q => by subst q; exact h2 rfl)
end
section
variable {X : Cx}
theorem map_int_inj {ns ms : List Int} : ns.map D.int = ms.map D.int ↔ ns = ms := by
  constructor
  · intro h
    exact List.map_inj_right (f := D.int) (fun a b e => by cases e; rfl) |>.mp h
  · rintro rfl; rfl
theorem c2_eqInts {ns ms : List Int} (hu : X.A.units + 64 < cLine) : C2 X .Eq (.tup (ns.map .int)) (.tup (ms.map .int)) (.bl (decide (ns = ms))) :=
  c2_eqC (n := 1) (m := 1) hu (.tup Cm.ints) (.tup Cm.ints) (by simp [map_int_inj])
theorem c2_neInts {ns ms : List Int} (hu : X.A.units + 64 < cLine) : C2 X .NotEq (.tup (ns.map .int)) (.tup (ms.map .int)) (.bl (!decide (ns = ms))) :=
  c2_neC (n := 1) (m := 1) hu (.tup Cm.ints) (.tup Cm.ints) (by simp [map_int_inj])
theorem c2_eqIntsL {ns ms : List Int} (hu : X.A.units + 64 < cLine) : C2 X .Eq (.lst (ns.map .int)) (.lst (ms.map .int)) (.bl (decide (ns = ms))) :=
  c2_eqC (n := 1) (m := 1) hu (.lst Cm.ints) (.lst Cm.ints) (by simp [map_int_inj])
theorem c2_eq2 {a b c d : Int} (hu : X.A.units + 64 < cLine) : C2 X .Eq (.tup [.int a, .int b]) (.tup [.int c, .int d]) (.bl (decide ([a, b] = [c, d]))) := c2_eqInts (ns := [a, b]) (ms := [c, d]) hu
theorem c2_ne2 {a b c d : Int} (hu : X.A.units + 64 < cLine) : C2 X .NotEq (.tup [.int a, .int b]) (.tup [.int c, .int d]) (.bl (!decide ([a, b] = [c, d]))) := c2_neInts (ns := [a, b]) (ms := [c, d]) hu
theorem c2_eq4 {a b c d e f g h : Int} (hu : X.A.units + 64 < cLine) : C2 X .Eq (.tup [.int a, .int b, .int c, .int d]) (.tup [.int e, .int f, .int g, .int h]) (.bl (decide ([a, b, c, d] = [e, f, g, h]))) := c2_eqInts (ns := [a, b, c, d]) (ms := [e, f, g, h]) hu
theorem c2_ne4 {a b c d e f g h : Int} (hu : X.A.units + 64 < cLine) : C2 X .NotEq (.tup [.int a, .int b, .int c, .int d]) (.tup [.int e, .int f, .int g, .int h]) (.bl (!decide ([a, b, c, d] = [e, f, g, h]))) := c2_neInts (ns := [a, b, c, d]) (ms := [e, f, g, h]) hu
end
section
variable {X : Cx} {ρ ρ' : En}
section
variable {elt tg iter : Expr} {ifs : List Expr} {scope : Scope} {ds : List D} {cpos pos : Pos} {α β : Type} {Φ : Out → Prop}
/-- [f x for x in xs], the items of a kind -/
theorem eo_map2 (own : List (Str × Nat)) (xs : List α) (enc : α → D) (g : α → β) (enc2 : β → D) (hc : X.calm = true) (hN : X.N.Nodup) (ok : BlkOk X.N X.env.scope scope own) (hi : ID X ρ tg iter ds) (he : ds = xs.map enc) (turn : ∀ x ∈ xs, Turn1 X ρ scope (own.map (·.2)) tg elt ifs (enc x) (some (enc2 (g x)))) (hl : xs.length ≤ sizeLine)
    (hs : ∀ x, foldedSetIterable iter X.env x = pure x := by intro _; rfl) : EO X ρ (.ListComp elt [⟨tg, iter, ifs, 0⟩] scope cpos) (.lst ((xs.map g).map enc2)) := by
  have h := eo_map (cpos := cpos) own xs enc (fun x => enc2 (g x)) hc hN ok hi he turn hl hs
  rw [List.map_map]; exact h
theorem ws_setMap2 (i : Nat) (own : List (Str × Nat)) (xs : List α) (enc : α → D) (g : α → β) (enc2 : β → D) {y : Str} {py : Pos} (hc : X.calm = true) (hN : X.N.Nodup) (ok : BlkOk X.N X.env.scope scope own) (hi : ID X ρ tg iter ds) (he : ds = xs.map enc) (turn : ∀ x ∈ xs, Turn1 X ρ scope (own.map (·.2)) tg elt ifs (enc x) (some (enc2 (g x)))) (hl : xs.length ≤ sizeLine)
    (hΦ : Φ (.nx (ρ.set i (.ow (.lst ((xs.map g).map enc2)))))) (hy : X.N[i]? = some y := by rfl) (hyl : X.env.scope.names.lookup y = some .local := by rfl)
    (hsw : swapsWith (.ListComp elt [⟨tg, iter, ifs, 0⟩] scope cpos) (some (.Name y py)) pos.line X.env = pure true := by exact sw_true rfl rfl rfl (by decide +kernel)) (hs : ∀ x, foldedSetIterable iter X.env x = pure x := by intro _; rfl) :
    WS X (.Assign [.Name y py] (.ListComp elt [⟨tg, iter, ifs, 0⟩] scope cpos) pos) ρ Φ :=
  ws_setMap i own xs enc (fun x => enc2 (g x)) hc hN ok hi he turn hl (by rw [List.map_map] at hΦ; exact hΦ) hy hyl hsw hs
end
end
end DL
namespace DL
open PySem
/-- the k-th number of a script, 0 behind its end -/
def cellAt (ns : List Int) (k : Int) : Int := ns.getD k.toNat 0
def mix1 (c k : Int) : Int := (c * 48271 + (k + 1) * 69621) % 2147483647
def mix2 (c k : Int) : Int := (mix1 c k * mix1 c k + mix1 c k * 16807 + k * 7919) % 2147483629
def mix3 (c k : Int) : Int := (mix2 c k * mix2 c k + c + 13 * k) % 2147483587
def drawStep (c : Int) (a : List Int × Int) (k : Nat) : List Int × Int :=
  if 1000000000000000000 ≤ c ∧ 0 < a.2 then (a.1 ++ [a.2 % 4096], a.2 / 4096) else (a.1 ++ [mix3 c k / 7 % 4096], a.2)
def drawn (c : Int) (n : Nat) : List Int × Int := (List.range n).foldl (drawStep c) ([], c)
def draws (c n : Int) : List Int := (drawn c n.toNat).1
theorem drawn_succ (c : Int) (n : Nat) : drawn c (n + 1) = drawStep c (drawn c n) n := by
  unfold drawn; rw [List.range_succ, List.foldl_append]; rfl
theorem draws_spec (c : Int) : ∀ n, (drawn c n).1.length = n ∧ ∀ x ∈ (drawn c n).1, 0 ≤ x ∧ x < 4096
  | 0 => by simp [drawn]
  | n + 1 => by
    obtain ⟨h1, h2⟩ := draws_spec c n
    rw [drawn_succ]
    unfold drawStep
    split
    · refine ⟨by simp [h1], fun x hx => ?_⟩
      simp only [List.mem_append, List.mem_singleton] at hx
      rcases hx with hx | rfl
      · exact h2 x hx
      · omega
    · refine ⟨by simp [h1], fun x hx => ?_⟩
      simp only [List.mem_append, List.mem_singleton] at hx
      rcases hx with hx | rfl
      · exact h2 x hx
      · omega
theorem draws_len (c n : Int) : (draws c n).length = n.toNat := (draws_spec c _).1
/-- the k-th draw -/
def dr (c n k : Int) : Int := (draws c n).getD k.toNat 0
theorem dr_get {c n k : Int} (h0 : 0 ≤ k) (h : k < n) : (draws c n)[k.toNat]? = some (dr c n k) := by
  unfold dr
  have : k.toNat < (draws c n).length := by rw [draws_len]; omega
  simp [this]
theorem dr_lo (c n k : Int) : 0 ≤ dr c n k ∧ dr c n k < 4096 := by
  unfold dr
  rw [List.getD_eq_getElem?_getD]
  cases q : (draws c n)[k.toNat]? with
  | none => simp
  | some x => exact (draws_spec c _).2 _ (List.mem_of_getElem? q)
/-- an item of a list of numbers -/
theorem at_ints {ns : List Int} {i : Int} {k : Nat} {x : Int} (e : i = k) (h : ns[k]? = some x) : L2.atI (ns.map D.int) i = some (.int x) := by
  subst e
  exact L2.atI_nat (by rw [List.getElem?_map, h]; rfl)
theorem at_draws {c n i : Int} (h0 : 0 ≤ i) (h : i < n) : L2.atI ((draws c n).map D.int) i = some (.int (dr c n i)) :=
  at_ints (k := i.toNat) (by omega) (dr_get h0 h)
def tC (t : Int) : Int := if t = 1 then 1 else if t = 3 then -1 else if t = 5 then -1 else if t = 7 then 1 else 0
def tD (t : Int) : Int := if t = 0 then 1 else if t = 2 then -1 else if t = 4 then 1 else if t = 6 then -1 else 0
def ty (t x y : Int) : Int := tC t * x + tD t * y
def ct (f s : Int) : Int := (if 4 ≤ s then s - f else s + f) % 4 + (if ((4 ≤ f) ↔ (4 ≤ s)) then 0 else 4)
def inv (t : Int) : Int := if 4 ≤ t then t else (4 - t) % 4
structure Bx where
  a : Int
  b : Int
  c : Int
  d : Int
  deriving DecidableEq
def Bx.e (x : Bx) : D := .tup [.int x.a, .int x.b, .int x.c, .int x.d]
theorem Bx.inj {x y : Bx} (h : x.e = y.e) : x = y := by
  cases x; cases y
  simp only [Bx.e, D.tup.injEq, List.cons.injEq, D.int.injEq] at h
  simp [h.1, h.2.1, h.2.2.1, h.2.2.2.1]
theorem Bx.cm (x : Bx) : Cm 1 x.e := .tup (Cm.ints (ns := [x.a, x.b, x.c, x.d]))
theorem Bx.cms {bs : List Bx} : ∀ d ∈ bs.map Bx.e, Cm 1 d := fun d hd => by
  obtain ⟨x, _, rfl⟩ := List.mem_map.mp hd
  exact x.cm
end DL
namespace DL
open PySem PySem.Spec PyProof.Rows L2
abbrev Sq := Int × Int
def kq (p : Sq) : List Key := [.inl p.1, .inl p.2]
def dicD (ks : List Sq) : OC := .dt (ks.map kq) ((ks.map fun _ => true).map D.bl)
theorem kq_inj {p q : Sq} : kq p = kq q ↔ p = q := by
  constructor
  · intro h
    simp only [kq, List.cons.injEq, Sum.inl.injEq, and_true] at h
    exact Prod.ext h.1 h.2
  · rintro rfl; rfl
def tT (ks : List Sq) : List (List Key × V) := ks.map fun q => (kq q, V.bl true)
theorem zipT (ks : List Sq) : (ks.map kq).zip ((ks.map fun _ => true).map V.bl) = tT ks := by
  induction ks with
  | nil => rfl
  | cons k ks ih => simp only [List.map_cons, List.zip_cons_cons, ih]; rfl
theorem tT_any (ks : List Sq) (p : Sq) : ((tT ks).any fun kv => decide (kv.1 = kq p)) = decide (p ∈ ks) := by
  induction ks with
  | nil => rfl
  | cons k ks ih =>
    have e : tT (k :: ks) = (kq k, V.bl true) :: tT ks := rfl
    rw [e, List.any_cons, ih, Bool.eq_iff_iff]
    simp only [Bool.or_eq_true, decide_eq_true_eq, List.mem_cons, kq_inj]
    exact or_congr ⟨Eq.symm, Eq.symm⟩ Iff.rfl
theorem tT_val (ks : List Sq) (p : Sq) : (valV (tT ks) (kq p)).isSome = decide (p ∈ ks) := by
  rw [← valV_any, tT_any]
theorem dr_dic {K : PySem.W.Frag} {H0 : Hp} {ks : List Sq} {v : V} (h : DR K H0 (dicD ks).d v) : ∃ a, v = .ref a ∧ Rd H0 a (.dT (tT ks)) := by
  obtain ⟨a, vs, rfl, h1, hl, r⟩ := h
  rw [DRs.bls r, zipT] at h1
  exact ⟨a, rfl, h1⟩
section
variable {X : Cx} {ρ : En} {Φ : Out → Prop} {pos : Pos}
/-- square in d -/
theorem op_inSq (hu : X.A.units + 1 < cLine) : OpR X (compareOp .In) (fun x y H Q => ∃ (a b : Addr) (kvs : List (List Key × V)) (k : List Key), x = .ref b ∧ y = .ref a ∧ Rd H a (.dT kvs) ∧ SqT X.K H b (k.map kV) ∧ Q (.bl (valV kvs k).isSome) H) := by
  rintro pins s σ H x y v u Q I rx ry ⟨a, b, kvs, k, rfl, rfl, h1, h2, q⟩
  cases (show v = Value.ref b from rx); cases (show u = Value.ref a from ry)
  obtain ⟨z, hd, xs, rel, dd⟩ := dt_rd I.hok h1
  obtain ⟨its, r, ⟨o, e, c, n, dat⟩, _⟩ := I.tuple h2
  refine wpAny_in_heap (tupleKind_room_in1 hu) (k := k) ⟨o, its.toArray, n, e, c, dat, by simpa using items_are r⟩ hd dd ?_
  have qq := (rel.val k).isSome_eq
  rw [Option.isSome_map] at qq
  rw [← qq]
  exact ⟨.bl (valV kvs k).isSome, H, I.tok _, rfl, q⟩
theorem c2_inSq {p1 p2 : Int} {ks : List Sq} (hu : X.A.units + 64 < cLine) : C2 X .In (.tup [.int p1, .int p2]) (dicD ks).d (.bl (decide ((p1, p2) ∈ ks))) := ⟨_, op_inSq (by omega), fun H0 H x y Q s r1 r2 kk => by
  obtain ⟨b, vs, rfl, h1, r⟩ := r1
  obtain ⟨v, w, rfl, e1, e2⟩ := r.two
  cases (show v = .int p1 from e1); cases (show w = .int p2 from e2)
  obtain ⟨a, rfl, h2⟩ := dr_dic r2
  exact ⟨a, b, _, kq (p1, p2), rfl, rfl, Same.rd s h2, Same.seqT s h1, kk _ H0 H (JH.refl s) (by rw [tT_val]; rfl)⟩⟩
end
end DL
namespace DL
open PySem
def sel3 (p q r m : Int) : Int := if m = 0 then p else if m = 1 then q else r
theorem ix_sel3 {p q r m : Int} (h : 0 ≤ m ∧ m < 3) : IX (.lst [.int p, .int q, .int r]) (.int m) (.int (sel3 p q r m)) := by
  have : m = 0 ∨ m = 1 ∨ m = 2 := by omega
  rcases this with rfl | rfl | rfl
  · exact IX.l0
  · exact IX.l1
  · exact IX.l2
end DL
namespace DL
open PySem PySem.Spec PyProof.Rows L2
section
variable {X : Cx} {ρ ρ' : En}
/-- z[i], z a text -/
theorem ed_ixS {a b : Expr} {z : Str} {i : Int} {c : Nat} {pos : Pos} (ha : ED X ρ a (.str z)) (hb : ED X ρ b (.int i)) (hz : z.length ≤ sizeLine) (h : atI z.cps.toList i = some c) (hs : PlainIx b := by exact fun _ _ => rfl) : ED X ρ (.Subscript a b pos) (.str ⟨#[c]⟩) := fun B0 B σ H0 H Q j kk => by
  refine RE.of (pe_ix ix_str pe_star pe_star hs) (ha B0 B σ H0 H _ j fun x G0 G g1 r1 => hb B0 B σ G0 G _ (j.grow g1) fun y L0 L g2 r2 => ?_)
  exact ⟨z, i, c, r1, r2, hz, h, kk _ L0 L (g1.trans g2) rfl⟩
theorem DG.mono {is is' : List Nat} {tg : Expr} {d : D} (h : DG X is tg d ρ ρ') (hi : ∀ k ∈ is, k ∈ is') : DG X is' tg d ρ ρ' := fun B0 B σ H0 H v Q j r k =>
  h B0 B σ H0 H v Q j r fun σ' j' off => k σ' j' fun m hm => off m fun z => hm (hi m z)
end
end DL
namespace DL
open PySem PySem.Spec PyProof.Rows L2
/-- c stands at a, and some slot owns it -/
structure Cell (ρ : En) (a : Addr) (c : OC) : Prop where
  ex : ∃ (i : Nat) (cs : List (Addr × OC)) (d : D), ρ[i]? = some (.ox cs d) ∧ (a, c) ∈ cs
section
variable {K : PySem.W.Frag} {B0 B H0 H : Hp} {σ : L2.St} {ρ : En}
theorem J.at (j : J K B0 B σ H0 H ρ) {a : Addr} {c : OC} (h : Cell ρ a c) : ∃ o, H a = some o ∧ H0 a = none ∧ B a = none ∧ OCR K H0 c o := by
  obtain ⟨i, cs, d, h1, h2⟩ := h.ex
  exact j.cell h1 h2
end
section
variable {X : Cx} {ρ : En} {Φ : Out → Prop} {e a b : Expr} {pos : Pos} {d : D} {rest : List Stmt}
theorem ed_varX (i : Nat) {x : Str} {cs : List (Addr × OC)} (hρ : ρ[i]? = some (.ox cs d)) (hN : X.N[i]? = some x := by rfl) (hv : Vis X.env.scope x := by first | exact Or.inl rfl | exact Or.inr (Or.inl rfl) | exact Or.inr (Or.inr rfl)) (hd : (x == ("__debug__" : Str)) = false := by decide)
    (hcd : (x == ("__classdict__" : Str)) = false := by decide) : ED X ρ (.Name x pos) d := fun B0 B σ H0 H Q j k => by
  obtain ⟨ov, h1, ⟨v, rfl, h2⟩, _⟩ := j.get hρ
  exact RE.of (pe_var hN hv hd hcd) ⟨v, h1, k v H0 H (JH.refl j.same) h2⟩
/-- .. that a slot owns -/
theorem ed_ixO (m : Nat) {x : Str} {p1 : Pos} {ds : List D} {i : Int} (hρ : ρ[m]? = some (.ow (.lst ds))) (hb : ED X ρ b (.int i)) (h : atI ds i = some d) (hs : PlainIx b := by exact fun _ _ => rfl) (hN : X.N[m]? = some x := by rfl) (hv : Vis X.env.scope x := by first | exact Or.inl rfl | exact Or.inr (Or.inl rfl) | exact Or.inr (Or.inr rfl)) (hd : (x == ("__debug__" : Str)) = false := by decide)
    (hcd : (x == ("__classdict__" : Str)) = false := by decide) : ED X ρ (.Subscript (.Name x p1) b pos) d := fun B0 B σ H0 H Q j kk => by
  obtain ⟨ov, e0, p, o, rfl, _⟩ := j.get hρ
  refine RE.of (pe_ix ix_list (pe_var hN hv hd hcd) pe_star hs) ⟨_, e0, hb B0 B σ H0 H _ j fun y L0 L g2 r2 => ?_⟩
  obtain ⟨ov', e0', p', o', e3, h1, h2, h3, vs, rfl, r⟩ := (j.grow g2).get hρ
  rw [e0] at e0'; cases e0'; cases e3
  obtain ⟨k, e1, e2, _⟩ := atI_get h
  obtain ⟨v, h3, h4⟩ := DRs.get r e2
  have e4 : atI vs i = some v := by
    unfold atI at h ⊢
    rw [← DRs.length r]
    cases q : ixN ds.length i with
    | none => rw [q] at h; cases h
    | some m =>
      rw [q] at h
      have := (ixN_seq q).1
      rw [e1] at this
      cases this
      exact h3
  exact ⟨p, vs, i, v, rfl, r2, SqL.of h1, e4, kk v L0 L g2 h4⟩
end
end DL
namespace DL
abbrev Seg (α : Type) := Int × Int × α
section
variable {α : Type} [DecidableEq α] {e : α}
def segVal (e : α) : List (Seg α) → Int → α
  | [], _ => e
  | s :: t, y => if s.1 ≤ y ∧ y < s.2.1 then s.2.2 else segVal e t y
/-- one behind the other, not to be made one -/
def link (s s' : Seg α) : Prop := s.2.1 ≤ s'.1 ∧ (s.2.1 = s'.1 → s.2.2 ≠ s'.2.2)
def okS (e : α) (s : Seg α) : Prop := s.1 < s.2.1 ∧ s.2.2 ≠ e
inductive Can (e : α) : List (Seg α) → Prop where
  | nil : Can e []
  | one {s} (h : okS e s) : Can e [s]
  | cons {s s' t} (h : okS e s) (hl : link s s') (ht : Can e (s' :: t)) : Can e (s :: s' :: t)
theorem Can.head {s : Seg α} {t : List (Seg α)} (h : Can e (s :: t)) : okS e s := by
  cases h with
  | one h => exact h
  | cons h _ _ => exact h
theorem Can.tail {s : Seg α} {t : List (Seg α)} (h : Can e (s :: t)) : Can e t := by
  cases h with
  | one h => exact .nil
  | cons _ _ h => exact h
theorem Can.ok {l : List (Seg α)} (h : Can e l) : ∀ p ∈ l, okS e p := by
  induction l with
  | nil => intro p hp; simp at hp
  | cons s t ih =>
    intro p hp
    rcases List.mem_cons.mp hp with rfl | hp
    · exact h.head
    · exact ih h.tail p hp
end
end DL
namespace DL
abbrev Asc (es : List Int) : Prop := es.Pairwise (· < ·)
structure EOk (es : List Int) : Prop where
  asc : Asc es
  even : es.length % 2 = 0
theorem eok_nil : EOk [] := ⟨List.Pairwise.nil, rfl⟩
end DL
namespace DL
open PySem PySem.Spec PyProof.Rows L2
def LeQ (a b : Sq) : Prop := a.1 < b.1 ∨ (a.1 = b.1 ∧ a.2 ≤ b.2)
instance (a b : Sq) : Decidable (LeQ a b) := by unfold LeQ; infer_instance
inductive All2 {α β : Type} (r : α → β → Prop) : List α → List β → Prop where
  | nil : All2 r [] []
  | cons {a b as bs} (h : r a b) (t : All2 r as bs) : All2 r (a :: as) (b :: bs)
theorem All2.len {α β : Type} {r : α → β → Prop} {as : List α} {bs : List β} (h : All2 r as bs) : as.length = bs.length := by
  induction h with
  | nil => rfl
  | cons _ _ ih => simp [ih]
theorem All2.imp {α β : Type} {r q : α → β → Prop} {as : List α} {bs : List β} (h : All2 r as bs) (i : ∀ a b, r a b → q a b) : All2 q as bs := by
  induction h with
  | nil => exact .nil
  | cons h _ ih => exact .cons (i _ _ h) ih
theorem All2.get {α β : Type} {r : α → β → Prop} : ∀ {as : List α} {bs : List β} {j : Nat} {a : α} {b : β}, All2 r as bs → as[j]? = some a → bs[j]? = some b → r a b
  | _, _, j, _, _, .nil, h, _ => by simp at h
  | _, _, 0, _, _, .cons h t, h1, h2 => by simp at h1 h2; subst h1 h2; exact h
  | _, _, j + 1, _, _, .cons h t, h1, h2 => All2.get (j := j) t (by simpa using h1) (by simpa using h2)
end DL
namespace DL
abbrev Row := Seg (List Int)
structure ROk (R : List Row) : Prop where
  can : Can [] R
  ed : ∀ p ∈ R, EOk p.2.2
def rowAt (R : List Row) (y : Int) : List Int := segVal [] R y
theorem segVal_mem {α : Type} {e : α} : ∀ {l : List (Seg α)} {y : Int}, segVal e l y = e ∨ ∃ p ∈ l, p.1 ≤ y ∧ y < p.2.1 ∧ p.2.2 = segVal e l y
  | [], y => .inl rfl
  | s :: t, y => by
    unfold segVal
    by_cases h : s.1 ≤ y ∧ y < s.2.1
    · rw [if_pos h]; exact .inr ⟨s, List.mem_cons_self, h.1, h.2, rfl⟩
    · rw [if_neg h]
      rcases segVal_mem (e := e) (l := t) (y := y) with h | ⟨p, h1, h2⟩
      · exact .inl h
      · exact .inr ⟨p, List.mem_cons_of_mem _ h1, h2⟩
theorem ROk.row {R : List Row} (h : ROk R) (y : Int) : EOk (rowAt R y) := by
  rcases segVal_mem (e := ([] : List Int)) (l := R) (y := y) with e | ⟨p, h1, _, _, e⟩
  · unfold rowAt; rw [e]; exact eok_nil
  · unfold rowAt; rw [← e]; exact h.ed p h1
end DL
namespace DL
open PySem PySem.Spec PyProof.Rows L2
/-- a set just made -/
abbrev nSet (w : World) : Obj := { cls := .type "set", dict := none, data := .set #[] 0 (.fresh 0 0 (!w.params.followText "set-order")) }
end DL
namespace DL
open PySem PySem.Spec PyProof.Rows L2
open PySem.W (EachIs AllAlike Sortable KeepsBut SortsAt KeyedOut dataLe dataKind alike)
section
variable {X : Cx} {pins : List (Addr × Obj)} {σ : L2.St} {H : Hp} {s : Shared} {β : Type} {bs : List β} {enc kd : β → D} {R : List D → D → Prop} {k : Nat} {f : Addr}
variable {ρ : En}
/-- a list or a tuple -/
inductive SeqD : D → List D → Prop where
  | lst (ds) : SeqD (.lst ds) ds
  | tup (ds) : SeqD (.tup ds) ds
end
end DL
namespace DL
open PySem PySem.Spec PyProof.Rows L2
section
variable {X : Cx} {ρ : En} {Φ : Out → Prop} {e a b c : Expr} {pos : Pos} {d : D}
/-- while -/
theorem ws_whileU {γ U : Type} {body : List Stmt} (G : γ → U → List (Nat × Sl)) (V : En → U) (P : γ → Prop) (μ : γ → Nat) (g0 : γ) (hρ : upds ρ (G g0 (V ρ)) = ρ) (h0 : P g0)
    (hs : ∀ g u, P g → ∃ t, TD X (upds ρ (G g u)) c t ∧ (t = true → WSs X body (upds ρ (G g u)) (fun o => match o with | .nx r => ∃ g', upds ρ (G g' (V r)) = r ∧ P g' ∧ μ g' < μ g | .ct r => ∃ g', upds ρ (G g' (V r)) = r ∧ P g' ∧ μ g' < μ g | .bk r => Φ (.nx r) | .rt v => Φ (.rt v) | .ro c => Φ (.ro c) | .rc v cs => Φ (.rc v cs))) ∧ (t = false → Φ (.nx (upds ρ (G g u)))))
    (hp : PassesOwn (model X.prog X.w) X.A X.env X.xe := by exact PassesOwn.never) : WS X (.While c body [] pos) ρ Φ := fun B0 B σ H0 H Dn j k => by
  refine ⟨_, ps_while hp pt_star pss_star, fun m σ1 H1 => ∃ g u L0, m = μ g ∧ P g ∧ J X.K H0 B σ1 L0 H1 (upds ρ (G g u)), ⟨μ g0, g0, V ρ, H0, rfl, h0, by rw [hρ]; exact j.rebase⟩, ?_⟩
  rintro m σ1 H1 ⟨g, u, L0, rfl, p, j1⟩
  obtain ⟨t, ht, h1, h2⟩ := hs g u p
  refine ht H0 B σ1 L0 H1 _ j1 fun L1 H2 g1 => ?_
  cases t with
  | false => exact iteF (k _ (h2 rfl) σ1 L1 H2 (j.unbase (j1.grow g1)))
  | true =>
    refine iteT ⟨fun σ2 H3 => ∃ g' u' L0, μ g' < μ g ∧ P g' ∧ J X.K H0 B σ2 L0 H3 (upds ρ (G g' u')), fun σ2 H3 ⟨g', u', L2, hm, p', j'⟩ => ⟨μ g', hm, g', u', L2, rfl, p', j'⟩, ?_⟩
    refine h1 rfl H0 B σ1 L1 H2 _ (j1.grow g1) fun o ho => ?_
    cases o with
    | nx r => exact fun σ3 M0 M j3 => by obtain ⟨g', e1, p', hm⟩ := ho; exact ⟨g', V r, M0, hm, p', by rw [e1]; exact j3⟩
    | ct r => exact fun σ3 M0 M j3 => by obtain ⟨g', e1, p', hm⟩ := ho; exact ⟨g', V r, M0, hm, p', by rw [e1]; exact j3⟩
    | bk r => exact fun σ3 M0 M j3 => k _ ho σ3 M0 M (j.unbase j3)
    | rt v => exact fun v' M0 M g r => k _ ho v' M0 M ⟨j.hp.s0.trans g.s0, g.sh, g.sB, fun b u e n e' => g.fr b u e n (j.hp.fr b u e n e')⟩ r
    | ro c => exact fun a o M0 M g h1 h2 h3 r => k _ ho a o M0 M ⟨j.hp.s0.trans g.s0, g.sh, g.sB, fun b u e n e' => g.fr b u e n (j.hp.fr b u e n e')⟩ h1 h2 h3 r
    | rc v cs => exact fun a M0 M g h1 h2 r => k _ ho a M0 M ⟨j.hp.s0.trans g.s0, g.sh, g.sB, fun b u e n e' => g.fr b u e n (j.hp.fr b u e n e')⟩ h1 h2 r
end
end DL
namespace DL
open PySem PySem.Spec PyProof.Rows L2
section
variable {X : Cx} {ρ : En} {a b : Expr} {pos : Pos}
theorem op_catL : OpR X (binaryOp .Add) (fun x y H Q => ∃ (l m : Addr) (xs zs : List V), x = .ref l ∧ y = .ref m ∧ SqL X.K H l xs ∧ SqL X.K H m zs ∧ xs.length + zs.length ≤ sizeLine ∧ ∀ p, H p = none → Q (.ref p) (upd H p (.lst (xs ++ zs)))) := by
  intro pins s σ H x y v u Q I rx ry h
  obtain ⟨l, m, xs, zs, rfl, rfl, h1, h2, hz, q⟩ := h
  cases rx
  cases ry
  obtain ⟨its, r1, ⟨⟨c1, d1, t1, s1⟩, n1, o1, e1, _, f1⟩, _⟩ := I.list h1
  obtain ⟨jts, r2, ⟨⟨c2, d2, t2, s2⟩, n2, o2, e2, _, f2⟩, _⟩ := I.list h2
  simp only at e1 f1 e2 f2
  subst e1 f1 e2 f2
  have hl : its.length + jts.length ≤ sizeLine := by rw [← r1.length, ← r2.length]; exact hz
  refine concat_meets ⟨_, o1, rfl⟩ ⟨_, o2, rfl⟩ noFill_list_add seq_list_add PySem.F.slot_list_add PySem.F.entry_list_add (PySem.F.args_list_add_2 _ _) (list_addW l m its.toArray jts.toArray n1 n2 d1 d2 s1 s2 (by simpa using hl)) ⟨o1, o2, ?_⟩
  have ea : its.toArray ++ jts.toArray = (its ++ jts).toArray := by simp
  rw [ea]
  exact ⟨.ref _, _, I.lnew (t' := s.toks) (r1.append r2) (by rw [List.length_append]; omega), rfl, q _ I.fresh⟩
/-- a + b, lists -/
theorem eo_cat {ds es : List D} (ha : ED X ρ a (.lst ds)) (hb : ED X ρ b (.lst es)) (hl : ds.length + es.length ≤ sizeLine) : EO X ρ (.BinOp a .Add b pos) (.lst (ds ++ es)) := fun B0 B σ H0 H Q j k =>
  RE.of (pe_op op_catL pe_star pe_star) (ha B0 B σ H0 H _ j fun x G0 G g1 r1 => hb B0 B σ G0 G _ (j.grow g1) fun y L0 L g2 r2 => by
    obtain ⟨p, vs, rfl, h1, h2⟩ := DR.mono g2.s0 _ _ r1
    obtain ⟨q, ws, rfl, h3, h4⟩ := r2
    exact ⟨p, q, vs, ws, rfl, rfl, g2.sh.seq h1, g2.sh.seq h3, by rw [← DRs.length h2, ← DRs.length h4]; exact hl, fun z hz => k z _ L0 _ ((g1.trans g2).trans (JH.own g2.sh hz)) upd_same (g2.sh.free hz) ((g1.trans g2).sB.free hz) ⟨_, rfl, DRs.app h2 h4⟩⟩)
end
end DL
namespace DL
open PySem PySem.Spec PyProof.Rows L2
section
variable {X : Cx} {ρ : En} {pos : Pos} {a b e : Expr}
/-- xs + b, xs a list that a slot owns -/
theorem eo_catO (m : Nat) {x : Str} {p1 : Pos} {ds es : List D} (hρ : ρ[m]? = some (.ow (.lst ds))) (hb : ED X ρ b (.lst es)) (hl : ds.length + es.length ≤ sizeLine) (hN : X.N[m]? = some x := by rfl) (hv : Vis X.env.scope x := by first | exact Or.inl rfl | exact Or.inr (Or.inl rfl) | exact Or.inr (Or.inr rfl)) (hd : (x == ("__debug__" : Str)) = false := by decide)
    (hcd : (x == ("__classdict__" : Str)) = false := by decide) : EO X ρ (.BinOp (.Name x p1) .Add b pos) (.lst (ds ++ es)) := fun B0 B σ H0 H Q j k => by
  obtain ⟨ov, e0, p, o, rfl, h1, h2, h3, vs, rfl, r⟩ := j.get hρ
  refine RE.of (pe_op op_catL (pe_var hN hv hd hcd) pe_star) ⟨_, e0, hb B0 B σ H0 H _ j fun y L0 L g2 r2 => ?_⟩
  obtain ⟨q, ws, rfl, h5, h6⟩ := r2
  have hp : L p = some (.lst vs) := g2.sB _ _ h1
  exact ⟨p, q, vs, ws, rfl, rfl, SqL.of hp, g2.sh.seq h5, by rw [← DRs.length r, ← DRs.length h6]; exact hl, fun z hz => k z _ L0 _ (g2.trans (JH.own g2.sh hz)) upd_same (g2.sh.free hz) (g2.sB.free hz) ⟨_, rfl, DRs.app (DRs.mono g2.s0 _ _ r) h6⟩⟩
theorem op_notInSq (hu : X.A.units + 1 < cLine) : OpR X (compareOp .NotIn) (fun x y H Q => ∃ (a b : Addr) (kvs : List (List Key × V)) (k : List Key), x = .ref b ∧ y = .ref a ∧ Rd H a (.dT kvs) ∧ SqT X.K H b (k.map kV) ∧ Q (.bl (!(valV kvs k).isSome)) H) := by
  rintro pins s σ H x y v u Q I rx ry ⟨a, b, kvs, k, rfl, rfl, h1, h2, q⟩
  cases (show v = Value.ref b from rx); cases (show u = Value.ref a from ry)
  obtain ⟨z, hd, xs, rel, dd⟩ := dt_rd I.hok h1
  obtain ⟨its, r, ⟨o, e, c, n, dat⟩, _⟩ := I.tuple h2
  refine wpAny_notIn_heap (tupleKind_room_in1 hu) (k := k) ⟨o, its.toArray, n, e, c, dat, by simpa using items_are r⟩ hd dd ?_
  have qq := (rel.val k).isSome_eq
  rw [Option.isSome_map] at qq
  rw [← qq]
  exact ⟨.bl (!(valV kvs k).isSome), H, I.tok _, rfl, q⟩
theorem bx_inj {l m : List Bx} : l.map Bx.e = m.map Bx.e ↔ l = m := List.map_inj_right (f := Bx.e) (fun a b e => Bx.inj e)
theorem c2_eqBx {l m : List Bx} (hu : X.A.units + 64 < cLine) : C2 X .Eq (.tup (l.map Bx.e)) (.tup (m.map Bx.e)) (.bl (decide (l = m))) :=
  c2_eqC (n := 2) (m := 2) hu (.tup Bx.cms) (.tup Bx.cms) (by simp [bx_inj])
theorem c2_neBx {l m : List Bx} (hu : X.A.units + 64 < cLine) : C2 X .NotEq (.tup (l.map Bx.e)) (.tup (m.map Bx.e)) (.bl (!decide (l = m))) :=
  c2_neC (n := 2) (m := 2) hu (.tup Bx.cms) (.tup Bx.cms) (by simp [bx_inj])
end
end DL
namespace DL
open PySem PySem.Spec PyProof.Rows L2
/-- what the top says of a class: cn its name, fs its fields -/
structure Kl (K : PySem.W.Frag) (mg : Str → Option Value) (cn : Str) (fs : List Str) : Prop where
  ex : ∃ C, PySem.W.nsIn K mainGlobals cn = some (some (.ref C)) ∧ mg cn = some (.ref C) ∧ C8.InsC K C ∧ PySem.W.keepIn K (.ref C) = true ∧ ∀ f ∈ fs, NoAttr K C f
theorem kit_self {K : PySem.W.Frag} {C : Addr} : PySem.W.kitOne K (.ref C) (.ref C) = some true := by
  unfold PySem.W.kitOne
  exact if_pos (by first | rfl | simp | decide)
theorem zip_at {f : Str} : ∀ {ns : List Str} {vs : List V} {i : Nat} {v : V}, ns[i]? = some f → (ns.take i).contains f = false → vs[i]? = some v → (ns.zip vs).lookup f = some v
  | n :: ns, w :: vs, 0, v, h1, _, h3 => by
    simp only [List.getElem?_cons_zero, Option.some.injEq] at h1 h3
    subst h1; subst h3
    simp [List.lookup_cons]
  | n :: ns, w :: vs, i + 1, v, h1, h2, h3 => by
    simp only [List.getElem?_cons_succ] at h1 h3
    rw [List.take_succ_cons, List.contains_cons, Bool.or_eq_false_iff] at h2
    rw [List.zip_cons_cons, List.lookup_cons]
    rw [h2.1]
    exact zip_at h1 h2.2 h3
  | [], vs, i, v, h1, _, _ => by simp at h1
  | n :: ns, [], i, v, _, _, h3 => by simp at h3
theorem zip_none {m : Str} : ∀ {ns : List Str} {vs : List V}, ns.contains m = false → (ns.zip vs).lookup m = none
  | [], vs, _ => by simp
  | n :: ns, [], _ => by simp
  | n :: ns, v :: vs, h => by
    rw [List.contains_cons, Bool.or_eq_false_iff] at h
    rw [List.zip_cons_cons, List.lookup_cons, h.1]
    exact zip_none h.2
theorem putF_new {f : Str} {y : V} : ∀ {ns : List Str} {vs : List V}, ns.contains f = false → ns.length = vs.length → putF f y (ns.zip vs) = (ns ++ [f]).zip (vs ++ [y])
  | [], [], _, _ => rfl
  | n :: ns, v :: vs, h, hl => by
    rw [List.contains_cons, Bool.or_eq_false_iff] at h
    have hne : ¬ (n = f) := fun e => by rw [e] at h; simp at h
    show (if n = f then _ else (n, v) :: putF f y (ns.zip vs)) = _
    rw [if_neg hne, putF_new h.2 (by simpa using hl)]
    rfl
  | [], v :: vs, _, hl => by simp at hl
  | n :: ns, [], _, hl => by simp at hl
section
variable {X : Cx} {ρ : En} {e : Expr} {pos : Pos} {cn f : Str} {ns fs : List Str} {ds : List D} {d : D}
/-- e.f, e an instance that is shared -/
theorem ed_fld (i : Nat) (kl : Kl X.K X.mg cn fs) (he : ED X ρ e (.obj cn ns ds)) (hn : ns[i]? = some f := by rfl) (hd : ds[i]? = some d := by rfl) (hu : (ns.take i).contains f = false := by decide +kernel) (hf : f ∈ fs := by decide +kernel)
    (hb : attributeBase e f X.env (eval e X.env) = eval e X.env := by rfl) : ED X ρ (.Attribute e f pos) d := fun B0 B σ H0 H Q j k => by
  refine RE.of (pe_fld pe_star hb) (he B0 B σ H0 H _ j fun v G0 G g r => ?_)
  obtain ⟨a, C, dx, vs, rfl, hC, ha, hlen, hvs⟩ := r
  obtain ⟨C', hC', hm, hc, hk, hna⟩ := kl.ex
  rw [hC] at hC'; cases hC'
  obtain ⟨v, hv, rv⟩ := DRs.get hvs hd
  exact ⟨a, C, dx, _, v, rfl, g.sh _ _ ha, hc.cl, hna f hf, zip_at hn hu hv, k v G0 G g rv⟩
/-- self.f = e, a new field -/
theorem ws_setF (s : Nat) {a : Addr} {x : Str} {p pos' : Pos} {value : Expr} {Φ : Out → Prop} (kl : Kl X.K X.mg cn fs) (hρ : ρ[s]? = some (.ox [(a, .ins cn ns ds)] (.ad a))) (hv : ED X ρ value d) (hΦ : Φ (.nx (ρ.set s (.ox [(a, .ins cn (ns ++ [f]) (ds ++ [d]))] (.ad a)))))
    (hnew : ns.contains f = false := by decide +kernel) (hf : f ∈ fs := by decide +kernel) (hlt : ns.length < 1000 := by decide)
    (hN : X.N[s]? = some x := by rfl) (hvis : Vis X.env.scope x := by first | exact Or.inl rfl | exact Or.inr (Or.inl rfl) | exact Or.inr (Or.inr rfl)) (hdb : (x == ("__debug__" : Str)) = false := by decide) (hcd : (x == ("__classdict__" : Str)) = false := by decide)
    (hs : swapsWith value (some (.Attribute (.Name x p) f pos')) pos.line X.env = pure false := by rfl) : WS X (.Assign [.Attribute (.Name x p) f pos'] value pos) ρ Φ := fun B0 B σ H0 H Dn j k => by
  refine ⟨_, ps_fld (pe_var hN hvis hdb hcd) pe_star hs, hv B0 B σ H0 H _ j fun v G0 G g r => ?_⟩
  have j1 := j.grow g
  obtain ⟨ov, e1, ⟨v1, rfl, rv⟩, hcs, _⟩ := j1.get hρ
  cases (show v1 = .ref a from rv)
  obtain ⟨o, h1, h2, h3, h4⟩ := (hcs _ (List.mem_singleton_self _)).ex
  obtain ⟨vs, C, dx, rfl, hC, hlen, hvs⟩ := h4
  obtain ⟨C', hC', hm, hc, hk, hna⟩ := kl.ex
  rw [hC] at hC'; cases hC'
  have hl : (ns.zip vs).length < 1000 := by rw [List.length_zip]; omega
  refine ⟨_, e1, a, C, dx, _, rfl, h1, hc.cl, hna f hf, hl, ?_⟩
  rw [putF_new hnew hlen]
  have j2 := j1.put (c' := .ins cn (ns ++ [f]) (ds ++ [d])) (o := .ins C dx ((ns ++ [f]).zip (vs ++ [v]))) hρ (List.mem_singleton_self _) ⟨vs ++ [v], C, dx, rfl, hC, by simp [hlen], DRs.app hvs (DRs.one r)⟩
  have e : putC [(a, OC.ins cn ns ds)] a (.ins cn (ns ++ [f]) (ds ++ [d])) = [(a, .ins cn (ns ++ [f]) (ds ++ [d]))] := by simp [putC]
  rw [e] at j2
  exact k _ hΦ _ _ _ j2
/-- isinstance(e, C), e an instance of C -/
theorem ed_isC {p1 p2 : Pos} (kl : Kl X.K X.mg cn fs) (hg : Gl X "isinstance") (hm : X.mg "isinstance" = none) (hgc : Gl X cn) (he : ED X ρ e (.obj cn ns ds))
    (hdc : (cn == ("__debug__" : Str)) = false := by decide +kernel)
    (h1 : starEach [e, .Name cn p2] X.env = (false, eval e X.env) :: starEach [.Name cn p2] X.env := by rfl) (h2 : starEach [.Name cn p2] X.env = (false, eval (.Name cn p2) X.env) :: starEach [] X.env := by rfl) (h3 : (backTo pos (starEach [.Name cn p2] X.env)).any (·.1) = false := by rfl) :
    ED X ρ (.Call (.Name "isinstance" p1) [e, .Name cn p2] [] pos) (.bl true) := fun B0 B σ H0 H Q j k => by
  obtain ⟨C', hC', hmc, hc, hk, hna⟩ := kl.ex
  refine RE.of (pe_callB (C8.call_isC hc) hg hm bb_isinstance (pa_cons pe_star (pa_cons (pe_glob (v := .ref C') hgc hmc rfl hdc) pa_nil h2) h1) (by decide) (by decide) h1 h3) (he B0 B σ H0 H _ j fun v G0 G g r => ?_)
  obtain ⟨a, C, dx, vs, rfl, hC, ha, hlen, hvs⟩ := r
  rw [hC] at hC'; cases hC'
  exact ⟨a, dx, _, rfl, g.sh _ _ ha, k _ G0 G g rfl⟩
end
/-- a heap without a -/
def er (H : Hp) (a : Addr) : Hp := fun b => if b = a then none else H b
theorem er_same {H : Hp} {a : Addr} : er H a a = none := if_pos rfl
theorem er_ne {H : Hp} {a b : Addr} (h : b ≠ a) : er H a b = H b := if_neg h
theorem er_sub {H : Hp} {a : Addr} : Same (er H a) H := fun b u e => by
  by_cases h : b = a
  · subst h; rw [er_same] at e; cases e
  · rwa [er_ne h] at e
/-- __init__'s promise: R of the arguments, the fields' names, the fields -/
def spI (K : PySem.W.Frag) (cn : Str) (R : List D → List Str → List D → Prop) : Sp := fun vs H Q _ => ∃ H0 a C dx ds ns es ws, vs = .ref a :: ws ∧ PySem.W.nsIn K mainGlobals cn = some (some (.ref C)) ∧ Same H0 H ∧ H a = some (.ins C dx []) ∧ H0 a = none ∧ DRs K H0 ds ws ∧ R ds ns es ∧
  ∀ H0' H' o, JH H0 (er H a) H0' H' → H' a = some o → H0' a = none → OCR K H0' (.ins cn ns es) o → Q .non H'
def enI (N : List Str) (a : Addr) (cn : Str) (ds : List D) : En := .ox [(a, .ins cn [] [])] (.ad a) :: (ds.map Sl.sh ++ List.replicate (N.length - (ds.length + 1)) Sl.no)
section
variable {P : Program} {w : World} {K : PySem.W.Frag} {mg : Str → Option Value} {base : Heap}
theorem j_startI {N : List Str} {H0 H : Hp} {a C dx : Addr} {cn : Str} {ds : List D} {vs : List V} (s : Same H0 H) (hC : PySem.W.nsIn K mainGlobals cn = some (some (.ref C))) (ha : H a = some (.ins C dx [])) (h0 : H0 a = none) (r : DRs K H0 ds vs) (hl : ds.length + 1 ≤ N.length) : J K H0 (er H a) (L2.start N (.ref a :: vs)) H0 H (enI N a cn ds) := by
  have hlen := DRs.length r
  have kind : ∀ (i : Nat) s, (enI N a cn ds)[i]? = some s → i = 0 ∨ s = .no ∨ ∃ d, s = .sh d := fun i s h => by
    cases i with
    | zero => exact .inl rfl
    | succ i =>
      refine .inr ?_
      unfold enI at h
      rw [List.getElem?_cons_succ] at h
      by_cases hi : i < ds.length
      · rw [List.getElem?_append_left (by simpa using hi), List.getElem?_map, show ds[i]? = some ds[i] by simp [hi]] at h
        cases h; exact .inr ⟨_, rfl⟩
      · rw [List.getElem?_append_right (by simp; omega), List.getElem?_replicate] at h
        split at h
        · cases h; exact .inl rfl
        · cases h
  refine ⟨⟨Same.refl _, s, er_sub, fun b o e _ h => h⟩, by simp [L2.start, enI, hlen], fun i sl ov h1 h2 => ?_, fun i j s1 s2 o1 o2 b h1 h2 _ _ w1 w2 => ?_⟩
  · cases i with
    | zero =>
      unfold enI at h1
      unfold L2.start at h2
      simp only [List.getElem?_cons_zero, Option.some.injEq, List.map_cons, List.cons_append] at h1 h2
      subst h1; subst h2
      refine ⟨⟨_, rfl, rfl⟩, fun p hp => ?_, by simp⟩
      rw [List.mem_singleton] at hp; subst hp
      exact ⟨_, ha, h0, er_same, [], C, dx, rfl, hC, rfl, rfl⟩
    | succ i =>
      unfold enI at h1
      unfold L2.start at h2
      simp only [List.getElem?_cons_succ, List.map_cons, List.cons_append] at h1 h2
      by_cases hi : i < ds.length
      · rw [List.getElem?_append_left (by simpa using hi), List.getElem?_map] at h1
        rw [List.getElem?_append_left (by simp; omega), List.getElem?_map] at h2
        obtain ⟨v, e1, e2⟩ := DRs.get r (show ds[i]? = some ds[i] by simp [hi])
        rw [show ds[i]? = some ds[i] by simp [hi]] at h1
        rw [e1] at h2
        cases h1; cases h2
        exact ⟨v, rfl, e2⟩
      · rw [List.getElem?_append_right (by simp; omega), List.getElem?_replicate] at h1
        split at h1
        · cases h1; trivial
        · cases h1
  · rcases kind i s1 h1 with e1 | e1
    · rcases kind j s2 h2 with e2 | e2
      · rw [e1, e2]
      · exact absurd w2 (Owns.none e2 b)
    · exact absurd w1 (Owns.none e1 b)
theorem fn_okI {x qual : Str} {st : Stmt} {f : Addr} {fd : FuncData} {N ps : List Str} {k : Nat} {cn : Str} {R : List D → List Str → List D → Prop} (F : Fun K x qual st f fd) (S : FnScope N ps (defScope st)) (hR : ∀ ds ns es, R ds ns es → ds.length + 1 = ps.length)
    (h : ∀ a ds ns es, R ds ns es → ∀ (cdv : Value) (A : Around) (outer : List Env) (s : Shared) (H : Hp) (E : XK), Room k (A.deeper (envOfC qual (defScope st) s.heap.objs.size f cdv)) →
      WSs (bx P w K mg base N qual st f cdv A outer s H E) (defBody st) (enI N a cn ds) (fun o => ∃ ρ es', o = .nx ρ ∧ ρ[0]? = some (.ox [(a, .ins cn ns es')] (.ad a)) ∧ ∀ H vs, DRs K H es' vs → DRs K H es vs)) : FnOk P w K mg base CX0 (k + 1) f fd ps (spI K cn R) := by
  refine F.ok S (fun vs H Q E hs => ?_) fun cdv A outer s H vs Q E hr hs => ?_
  · obtain ⟨H0, a, C, dx, ds, ns, es, ws, rfl, hC, s0, ha, h0, r, q, _⟩ := hs
    rw [List.length_cons, ← DRs.length r]; exact hR ds ns es q
  · obtain ⟨H0, a, C, dx, ds, ns, es, ws, rfl, hC, s0, ha, h0, r, q, kk⟩ := hs
    have hN : ds.length + 1 ≤ N.length := by
      have h1 := hR ds ns es q
      have h2 := congrArg List.length S.pre
      rw [List.length_take] at h2
      omega
    obtain ⟨t, h1, h2⟩ := h a ds ns es q cdv A outer s H E hr H0 (er H a) (L2.start N (.ref a :: ws)) H0 H (j_startI s0 hC ha h0 r hN) (Dn := { nx := fun _ H' => Q .non H', rt := Q }) fun o ho => by
      obtain ⟨ρ, es', rfl, hρ, hw⟩ := ho
      intro σ G0 G j
      obtain ⟨ov, e1, ⟨v, rfl, rv⟩, hcs, _⟩ := j.get hρ
      obtain ⟨o, g1, g2, g3, g4⟩ := (hcs _ (List.mem_singleton_self _)).ex
      obtain ⟨vs, C', dx', e1, e2, e3, e4⟩ := g4
      exact kk G0 G o j.hp g1 g2 ⟨vs, C', dx', e1, e2, e3, hw _ _ e4⟩
    exact ⟨t, h1, h2⟩
/-- a class that is made by calling it -/
structure FnI (P : Program) (w : World) (K : PySem.W.Frag) (mg : Str → Option Value) (base : Heap) (cn : Str) (k : Nat) (R : List D → List Str → List D → Prop) : Prop where
  ex : ∃ C f fd ps, PySem.W.nsIn K mainGlobals cn = some (some (.ref C)) ∧ mg cn = some (.ref C) ∧ Mk K C f ∧ FnOk P w K mg base CX0 k f fd ps (spI K cn R) ∧ Binds K fd ps []
theorem eo_make {X : Cx} {ρ : En} {e : Expr} {pos : Pos} {cn : Str} {k : Nat} {R : List D → List Str → List D → Prop} {es : List Expr} {ds zs : List D} {ns : List Str} {p : Pos} (G : FnI X.prog X.w X.K X.mg X.base cn k R) (hr : Room (k + 1) X.A) (hg : Gl X cn) (ha : AD X ρ (e :: es) ds) (hR : R ds ns zs)
    (hdb : (cn == ("__debug__" : Str)) = false := by decide +kernel) (he : starEach (e :: es) X.env = (false, eval e X.env) :: starEach es X.env := by rfl) (hpl : (backTo pos (starEach es X.env)).any (·.1) = false := by rfl) :
    EO X ρ (.Call (.Name cn p) (e :: es) [] pos) (.ins cn ns zs) := fun B0 B σ H0 H Q j kk => by
  obtain ⟨C, f, fd, ps, hC, hm, M, F, hb⟩ := G.ex
  refine RE.of (pe_make (E := E0) M F hr hg hm hb .nil pass0 pa_star hdb he hpl) (ha B0 B σ H0 H _ j fun vs G0 G g r => ?_)
  intro x dx hx hdx hne
  rw [List.append_nil]
  have g0x : G0 x = none := g.sh.free hx
  have g0d : G0 dx = none := g.sh.free hdx
  have s1 : Same G0 (upd (upd G dx (.own x)) x (.ins C dx [])) := fun b u q => by
    rw [upd_ne (ne_of_none q g0x), upd_ne (ne_of_none q g0d)]
    exact g.sh b u q
  have sE : ∀ b u, G b = some u → er (upd (upd G dx (.own x)) x (.ins C dx [])) x b = some u := fun b u q => by
    have n1 := ne_of_none q hx
    rw [er_ne n1, upd_ne n1, upd_ne (ne_of_none q hdx)]
    exact q
  refine ⟨G0, x, C, dx, ds, ns, zs, vs, rfl, hC, s1, upd_same, g0x, r, hR, fun L0 L o gg e1 e2 e3 => ⟨rfl, ?_⟩⟩
  exact kk x o L0 L (g.trans ⟨gg.s0, gg.sh, fun b u q => gg.sB b u (sE b u q), fun b u q nt q' => gg.fr b u (sE b u q) nt q'⟩) e1 e2 (g.sB.free hx) e3
structure FnM (P : Program) (w : World) (K : PySem.W.Frag) (mg : Str → Option Value) (base : Heap) (cn m : Str) (k : Nat) (R : List D → D → Prop) : Prop where
  ex : ∃ C f fd ps, PySem.W.nsIn K mainGlobals cn = some (some (.ref C)) ∧ Cls K C ∧ Meth K C m f ∧ FnOk P w K mg base CX0 k f fd ps (spR K R) ∧ Binds K fd ps []
theorem ed_meth0 {X : Cx} {ρ : En} {o : Expr} {pos apos : Pos} {cn m : Str} {k : Nat} {R : List D → D → Prop} {fds : List D} {ns : List Str} {d : D} {pl : Sem Bool} (G : FnM X.prog X.w X.K X.mg X.base cn m k R) (hr : Room k X.A) (ho : ED X ρ o (.obj cn ns fds)) (hR : R [.obj cn ns fds] d)
    (hm : ns.contains m = false := by decide +kernel)
    (ht : eval (.Call (.Attribute o m apos) [] [] pos) X.env = (do
      let ov ← eval o X.env
      standAt apos.atName
      let (f, first) ← holding [ov] (getMethod ov m pl)
      callWith pos f first (backTo pos (starEach [] X.env)) (backToKw pos (keywordEach [] X.env))) := by rfl) :
    ED X ρ (.Call (.Attribute o m apos) [] [] pos) d := fun B0 B σ H0 H Q j kk => by
  obtain ⟨C, f, fd, ps, hC, hc, hmt, F, hb⟩ := G.ex
  refine RE.of (pe_meth0 (E := E0) pe_star hc hmt F hr hb .nil pass0 ht) (ho B0 B σ H0 H _ j fun v G0 G g r => ?_)
  obtain ⟨a, C', dx, vs, rfl, hC', hA, hlen, hvs⟩ := id r
  rw [hC] at hC'; cases hC'
  refine ⟨a, dx, _, rfl, g.sh _ _ hA, zip_none hm, ?_⟩
  exact ⟨G0, [.obj cn ns fds], d, g.sh, ⟨_, _, rfl, r, rfl⟩, hR, fun v M0 M g3 r3 => kk v M0 M (g.trans g3) r3⟩
end
end DL
namespace DL
open PySem PySem.Spec PyProof.Rows L2
local instance (priority := 2000) keyBEq : BEq Key := instBEqOfDecidableEq
/-- the keys, each once -/
def stepK (σ : List Key) (v : Key) : List Key := if v ∈ σ then σ else σ ++ [v]
def ddK (ks : List Key) : List Key := ks.foldl stepK []
theorem ddK_snoc (ks : List Key) (v : Key) : ddK (ks ++ [v]) = stepK (ddK ks) v := by
  unfold ddK; rw [List.foldl_append]; rfl
theorem snoc_ind {α : Type} {P : List α → Prop} (h0 : P []) (hs : ∀ l x, P l → P (l ++ [x])) : ∀ l, P l := fun l => by
  have : ∀ n, ∀ l : List α, l.length = n → P l := fun n => by
    induction n with
    | zero => intro l hl; rw [List.length_eq_zero_iff.mp hl]; exact h0
    | succ n ih =>
      intro l hl
      have hne : l ≠ [] := fun e => by rw [e] at hl; cases hl
      rw [← List.dropLast_concat_getLast hne]
      exact hs _ _ (ih _ (by rw [List.length_dropLast, hl]; rfl))
  exact this _ l rfl
theorem mem_ddK (k : Key) : ∀ ks : List Key, k ∈ ddK ks ↔ k ∈ ks := by
  refine snoc_ind (by simp [ddK]) fun ks v ih => ?_
  rw [ddK_snoc, List.mem_append]
  unfold stepK
  split
  · rename_i h
    rw [ih]
    constructor
    · exact .inl
    · rintro (h1 | h1)
      · exact h1
      · rw [List.mem_singleton] at h1; subst h1; exact ih.mp h
  · rw [List.mem_append, ih]
theorem ddK_len : ∀ ks : List Key, (ddK ks).length ≤ ks.length := by
  refine snoc_ind (by simp [ddK]) fun ks v ih => ?_
  rw [ddK_snoc, List.length_append]
  unfold stepK
  split
  · omega
  · rw [List.length_append]; simp only [List.length_cons, List.length_nil]; omega
theorem ddK_nodup : ∀ ks : List Key, ks.Nodup → (ddK ks).length = ks.length := by
  refine snoc_ind (by simp [ddK]) fun ks v ih h => ?_
  rw [List.nodup_append] at h
  rw [ddK_snoc, List.length_append]
  unfold stepK
  rw [if_neg, List.length_append, ih h.1]
  intro hv
  exact h.2.2 v ((mem_ddK v ks).mp hv) v (by simp) rfl
theorem ddK_lt : ∀ ks : List Key, ¬ ks.Nodup → (ddK ks).length < ks.length := by
  refine snoc_ind (fun h => absurd List.nodup_nil h) fun ks v ih h => ?_
  rw [ddK_snoc, List.length_append]
  unfold stepK
  have hl := ddK_len ks
  split
  · simp only [List.length_cons, List.length_nil]; omega
  · rename_i hv
    rw [List.length_append]
    have hn : ¬ ks.Nodup := fun hn => h (List.nodup_append.mpr ⟨hn, by simp, fun a ha b hb e => by
      rw [List.mem_singleton] at hb
      subst hb; subst e
      exact hv ((mem_ddK _ _).mpr ha)⟩)
    have := ih hn
    simp only [List.length_cons, List.length_nil]; omega
section
variable {P : Program} {w : World} {A : Around} {E : Value → Shared → Prop} {s : Shared}
theorem set_update_keys {I : Addr} {fp wr : List Addr} {G : Array GenState → Array GenState → Prop} {n : Nat} {Pv : Nat → Value → Prop} {St : Nat → Shared → Prop} {R : Result → Shared → Prop}
    (W : WalksS P w A.in1 I fp wr G n Pv St) (S : Addr) (hSf : S ∉ fp) (ks : List Key) (hn : n = ks.length) (hb : ks.length + 1 < scanBound) (hval : ∀ i v, Pv i v → ∃ k, ks[i]? = some k ∧ (mixKind P w).is k v = true ∧ v.scannable = true) :
    ∀ (k i : Nat) (s : Shared), n - i = k → i ≤ n → St i s → s.heap.SetOf (mixKind P w) S (fun j => decide (j ∈ ks.take i)) (ddK (ks.take i)).length →
      (∀ s', Moved (S :: wr) G s s' → s'.heap.SetOf (mixKind P w) S (fun j => decide (j ∈ ks)) (ddK ks).length → R (.ok (.ret .none)) s') →
      codeAny (model P w) A (.builtin "set.update.loop" ⟨[.ref S, .ref I], []⟩) R s := by
  have hSw : S ∉ wr := fun h => hSf (W.sub _ h)
  have hsub : ∀ b ∈ wr, b ∈ S :: wr := fun b hb => List.mem_cons_of_mem _ hb
  intro k
  induction k with
  | zero =>
    intro i s hk' hi hst hS hR
    have hin : i = n := by omega
    subst hin
    refine codeAny_builtin F.entry_set_update_loop ?_
    rw [Around.under_plainId F.plain_set_update_loop _]
    show wpAny _ A.in1 (pyNext (.ref I) >>= _) _ _ s
    refine wpAny_bind (W.done s _ _ hst fun s' hm => ?_)
    show wpAny _ A.in1 (ret Value.none) _ _ s'
    have e : ks.take i = ks := List.take_of_length_le (by omega)
    rw [e] at hS
    exact wpAny_pure (hR s' (hm.mono hsub) (setOf_at hS fun o e => hm.heap S o hSw e))
  | succ k ih =>
    intro i s hk' hi hst hS hR
    have hlt : i < n := by omega
    refine codeAny_builtin F.entry_set_update_loop ?_
    rw [Around.under_plainId F.plain_set_update_loop _]
    show wpAny _ A.in1 (pyNext (.ref I) >>= _) _ _ s
    refine wpAny_bind (W.item i s _ _ hlt hst fun v s' hP hst' hm => ?_)
    obtain ⟨z, hz, hkey, hsc⟩ := hval i v hP
    have hS' : s'.heap.SetOf (mixKind P w) S (fun j => decide (j ∈ ks.take i)) (ddK (ks.take i)).length := setOf_at hS fun o e => hm.heap S o hSw e
    show wpAny _ A.in1 (holding [v] (setAdd S v) >>= _) _ _ s'
    refine wpAny_bind (wpAny_holding ?_)
    unfold setAdd
    refine wpAny_holding ?_
    refine wpAny_bind ((mixKind P w).pyHash (k := z) hkey ?_)
    have hroom : (ddK (ks.take i)).length + 1 < scanBound := by
      have h1 := ddK_len (ks.take i)
      rw [List.length_take] at h1
      omega
    refine wpAny_setAddHashed_of (s := { s' with toks := s'.toks + 1 }) hkey hsc hS' hroom fun h' hsb hS2 => ?_
    have et : ks.take (i + 1) = ks.take i ++ [z] := by rw [List.take_add_one, hz]; rfl
    have hS3 : h'.SetOf (mixKind P w) S (fun j => decide (j ∈ ks.take (i + 1))) (ddK (ks.take (i + 1))).length := by
      refine SetOf_congr hS2 (fun j => ?_) ?_
      · rw [et]
        simp [List.mem_append]
      · rw [et, ddK_snoc]
        unfold stepK
        by_cases hm : z ∈ ks.take i
        · rw [if_pos (decide_eq_true hm), if_pos ((mem_ddK _ _).mpr hm)]
        · rw [if_neg (by simpa using hm), if_neg (fun q => hm ((mem_ddK _ _).mp q)), List.length_append]; rfl
    refine wpAny_pure ⟨plainId_quiet F.plain_set_update_loop _, ih (i + 1) _ (by omega) hlt (W.frame _ s' _ _ hst' (Nat.le_succ _) fun b hb o e => ?_) hS3 fun s'' hm'' hS'' => ?_⟩
    · rw [hsb.2 b (fun h : b = S => hSf (by rw [← h]; exact hb))]; exact e
    · refine hR s'' (Moved.trans W.gtrans ((hm.mono hsub).then_heap (Nat.le_succ _) fun b o hb e => ?_) hm'') hS''
      rw [hsb.2 b (fun h : b = S => hb (by rw [h]; exact List.mem_cons_self))]; exact e
/-- the values are the keys -/
def KeysAre (P : Program) (w : World) (us : List Value) (ks : List Key) : Prop := us.length = ks.length ∧ ∀ (i : Nat) u, us[i]? = some u → ∃ k, ks[i]? = some k ∧ (mixKind P w).is k u = true ∧ u.scannable = true
end
theorem keys_are {P : Program} {w : World} : ∀ {ks : List Key} {us : List Value}, Vals (ks.map kV) us → KeysAre P w us ks
  | [], us, r => by cases r; exact ⟨rfl, fun i u h => by simp at h⟩
  | k :: ks, us, r => by
    cases r with
    | cons r1 r2 =>
      have ih := keys_are (P := P) (w := w) r2
      refine ⟨by simp [ih.1], fun i u h => ?_⟩
      cases i with
      | zero =>
        simp only [List.getElem?_cons_zero, Option.some.injEq] at h ⊢
        subst h
        exact ⟨k, rfl, kV_is r1, key_scan r1⟩
      | succ i =>
        simp only [List.getElem?_cons_succ] at h ⊢
        exact ih.2 i u h
/-- an int, a text as a key -/
def kD : Key → D
  | .inl i => .int i
  | .inr x => .str x
theorem kD_val {K : PySem.W.Frag} {H : Hp} {k : Key} {v : V} (h : DR K H (kD k) v) : v = kV k := by
  cases k with
  | inl i => exact h
  | inr x => exact h
theorem kDs_val {K : PySem.W.Frag} {H : Hp} : ∀ {ks : List Key} {vs : List V}, DRs K H (ks.map kD) vs → vs = ks.map kV
  | [], vs, h => h
  | k :: ks, vs, h => by
    obtain ⟨v, r, rfl, h2, h3⟩ := h
    rw [kD_val h2, kDs_val h3]; rfl
section
variable {X : Cx} {ρ : En} {pos : Pos}
theorem call_lenK : CallR X (.builtin "len") (fun vs H Q => ∃ (a : Addr) (S : Key → Bool) (n : Nat), vs = [.ref a] ∧ H a = some (SetK X.prog X.w a S n) ∧ Q (.int (n : Nat)) H) := by
  intro pins s σ H vs us Q I r h
  obtain ⟨a, S, n, rfl, ha, q⟩ := h
  rw [Vals.ref1 r]
  obtain ⟨o, es, ep, t, ho, hex, hd, _, _, hb, hf, hn⟩ := setK_get I ha
  refine call_len_set ho hex hd hf (by unfold scanBound at hb; omega) ⟨.int (n : Nat), H, I.tok _, ⟨_, by rw [hn]⟩, q⟩
end
end DL
namespace DL
open PySem PySem.Spec PyProof.Rows L2
open PySem.W (EachIs AllAlike Sortable KeepsBut SortsAt KeyedOut dataLe dataKind alike sortingHeap sortingHeap_old)
section
variable {X : Cx} {ρ : En} {pos : Pos} {β : Type} {bs : List β} {enc : β → D}
theorem c2_leS {i j : Str} : C2 X .LtE (.str i) (.str j) (.bl (!decide (j.cps.toList < i.cps.toList))) := ⟨_, op_le_str, fun H0 H x y Q s r1 r2 k => by
  cases (show x = .str i from r1); cases (show y = .str j from r2)
  exact ⟨i, j, rfl, rfl, k _ H0 H (JH.refl s) rfl⟩⟩
theorem bc_strI {i : Int} (h : i.natAbs.log2 < 1920) : BC X (.type "str") [.int i] (.str (toString i)) := bc_keep call_str_int _ (fun _ => rfl) fun _ _ vs _ _ r q => by
  obtain ⟨x, rfl, h1⟩ := r.one'
  cases (show x = .int i from h1)
  exact ⟨i, rfl, h, q⟩
/-- the signs of a text, each a text -/
def sgn (c : Nat) : Str := ⟨#[c]⟩
theorem id_str {tg e : Expr} {z : Str} (h : ED X ρ e (.str z)) : ID X ρ tg e (z.cps.toList.map fun c => .str (sgn c)) := fun B0 B σ H0 H R j k =>
  ⟨_, pi_str pe_star, h B0 B σ H0 H _ j fun v G0 G g r => ⟨z, r, k _ G0 G g ⟨_, _, (by rw [List.length_map, Array.length_toList]; exact walk_str (z := z)), fun _ _ _ _ => trivial, fun i H1 H x H' d hd s1 s2 y => by
    obtain ⟨rfl, c, hc, rfl⟩ := y
    rw [List.getElem?_map, Array.getElem?_toList, hc] at hd
    cases hd
    exact ⟨H1, JH.refl s2, rfl⟩⟩⟩⟩
theorem c2_inStr {x : Str} {ys : List Str} {d : D} (hd : SeqD d (ys.map D.str)) : C2 X .In (.str x) d (.bl (decide (x ∈ ys))) := ⟨_, op_in_seq, fun H0 H u v Q s r1 r2 k => by
  cases (show u = .str x from r1)
  have hf : (ys.map V.str).all flatV = true := by simp [flatV]
  have hi : inV (.str x) (ys.map V.str) = decide (x ∈ ys) := by
    unfold inV
    rw [Bool.eq_iff_iff]
    simp only [List.any_eq_true, List.mem_map, decide_eq_true_eq]
    constructor
    · rintro ⟨v, ⟨y, hy, rfl⟩, h⟩
      have : y = x := by simpa [eqV] using h
      exact this ▸ hy
    · intro h
      exact ⟨.str x, ⟨x, h, rfl⟩, by simp [eqV]⟩
  have fin : Q (.bl (if false = true then !inV (.str x) (ys.map V.str) else inV (.str x) (ys.map V.str))) H := by
    rw [hi]; exact k _ H0 H (JH.refl s) rfl
  cases hd with
  | lst =>
    obtain ⟨a, vs, rfl, h1, h2⟩ := r2
    rw [DRs.strs h2] at h1
    exact ⟨a, _, rfl, .inl (s.seq h1), rfl, hf, fin⟩
  | tup =>
    obtain ⟨a, vs, rfl, h1, h2⟩ := r2
    rw [DRs.strs h2] at h1
    exact ⟨a, _, rfl, .inr (Same.seqT s h1), rfl, hf, fin⟩⟩
end
end DL
namespace DL
open PySem PySem.Spec PyProof.Rows L2
theorem Paired.mono {α β : Type} {R R' : α → β → Prop} (m : ∀ a b, R a b → R' a b) : ∀ {as : List α} {bs : List β}, Paired R as bs → Paired R' as bs
  | _, _, .nil => .nil
  | _, _, .cons h t => .cons (m _ _ h) (Paired.mono m t)
section
variable {X : Cx} {ρ : En} {pos : Pos}
/-- z[lo:hi], z a text -/
theorem ed_sliceS {e : Expr} {lo hi : Option Expr} {p q : Option Int} {z : Str} {p2 : Pos} (he : ED X ρ e (.str z)) (hz : z.length ≤ sizeLine) (hl : Part X ρ lo p) (hh : Part X ρ hi q) : ED X ρ (.Subscript e (.Slice lo hi none p2) pos) (.str (cutS z p q)) := fun B0 B σ H0 H Q j k =>
  RE.of (pe_slice sl_str pe_star po_star po_star) (he B0 B σ H0 H _ j fun v G0 G g1 r => hl.run (j.grow g1) fun L0 L g2 => hh.run ((j.grow g1).grow g2) fun M0 M g3 =>
    ⟨z, r, hz, k _ M0 M ((g1.trans g2).trans g3) rfl⟩)
/-- t[lo:hi], t a tuple -/
theorem ed_sliceT {e : Expr} {lo hi : Option Expr} {p q : Option Int} {ds : List D} {p2 : Pos} (he : ED X ρ e (.tup ds)) (hl : Part X ρ lo p) (hh : Part X ρ hi q) : ED X ρ (.Subscript e (.Slice lo hi none p2) pos) (.tup (cutD ds p q)) := fun B0 B σ H0 H Q j k =>
  RE.of (pe_slice sl_tupA pe_star po_star po_star) (he B0 B σ H0 H _ j fun v G0 G g1 r => hl.run (j.grow g1) fun L0 L g2 => hh.run ((j.grow g1).grow g2) fun M0 M g3 => by
    obtain ⟨a, vs, rfl, h1, h2⟩ := r
    have g := g2.trans g3
    have h2' := DRs.mono g.s0 _ _ h2
    have h1' := Same.seqT (g.sh) (Same.seqT g.s0 h1)
    refine ⟨a, vs, rfl, h1', fun hw => k _ M0 M (g1.trans g) ⟨a, _, rfl, Same.seqT g.s0 h1, by
      have e : cutD ds p q = ds := by
        unfold cutD
        rw [DRs.length h2', hw.1, hw.2, List.drop_zero, Nat.sub_zero, ← DRs.length h2', List.take_length]
      rw [e]; exact h2'⟩, fun hw pp hp => ?_⟩
    have g4 : JH M0 M (upd M0 pp (.tup (cutV vs p q))) (upd M pp (.tup (cutV vs p q))) := JH.new g.sh hp
    exact k _ _ _ ((g1.trans g).trans g4) ⟨pp, _, rfl, SqT.of upd_same, DRs.mono g4.s0 _ _ (DRs.cut h2' _ _)⟩)
end
end DL
namespace DL
open PySem PySem.Spec PyProof.Rows L2
theorem one_lt (a b : Nat) : (([a] : List Nat) < [b]) ↔ a < b := by
  constructor
  · intro h
    cases h with
    | rel h => exact h
    | cons h => cases h
  · exact fun h => List.Lex.rel h
theorem chX {x y : Str} {lo hi : Nat} (e1 : x.cps.toList = [lo]) (e2 : y.cps.toList = [hi]) (c : Nat) : ((!decide ((⟨#[c]⟩ : Str).cps.toList < x.cps.toList)) && (!decide (y.cps.toList < (⟨#[c]⟩ : Str).cps.toList))) = (decide (lo ≤ c) && decide (c ≤ hi)) := by
  rw [Bool.eq_iff_iff]
  simp only [Bool.and_eq_true, Bool.not_eq_true', decide_eq_false_iff_not, decide_eq_true_eq]
  rw [e1, e2]
  show ¬ (([c] : List Nat) < [lo]) ∧ ¬ (([hi] : List Nat) < [c]) ↔ _
  rw [one_lt, one_lt]
  omega
theorem chA (c : Nat) : ((!decide ((⟨#[c]⟩ : Str).cps.toList < (PySem.Str.ofString "a").cps.toList)) && (!decide ((PySem.Str.ofString "z").cps.toList < (⟨#[c]⟩ : Str).cps.toList))) = (decide (97 ≤ c) && decide (c ≤ 122)) :=
  chX (by decide +kernel) (by decide +kernel) c
theorem ch0 (c : Nat) : ((!decide ((⟨#[c]⟩ : Str).cps.toList < (PySem.Str.ofString "0").cps.toList)) && (!decide ((PySem.Str.ofString "9").cps.toList < (⟨#[c]⟩ : Str).cps.toList))) = (decide (48 ≤ c) && decide (c ≤ 57)) :=
  chX (by decide +kernel) (by decide +kernel) c
end DL
namespace DL
open PySem PySem.Spec PyProof.Rows L2
section
variable {X : Cx} {ρ : En} {pos : Pos}
theorem c2_inInts {i : Int} {ns : List Int} : C2 X .In (.int i) (.lst (ns.map .int)) (.bl (decide (i ∈ ns))) := ⟨_, op_in_seq, fun H0 H u v Q s r1 r2 k => by
  cases (show u = .int i from r1)
  obtain ⟨a, vs, rfl, h1, h2⟩ := r2
  rw [DRs.ints h2] at h1
  have hi : inV (.int i) (ns.map V.int) = decide (i ∈ ns) := by
    unfold inV
    rw [Bool.eq_iff_iff]
    simp only [List.any_eq_true, List.mem_map, decide_eq_true_eq]
    constructor
    · rintro ⟨v, ⟨y, hy, rfl⟩, h⟩
      have : y = i := by simpa [eqV] using h
      exact this ▸ hy
    · intro h
      exact ⟨.int i, ⟨i, h, rfl⟩, by simp [eqV]⟩
  refine ⟨a, _, rfl, .inl (s.seq h1), rfl, by simp [flatV], ?_⟩
  rw [hi]
  exact k _ H0 H (JH.refl s) rfl⟩
end
end DL
namespace DL
open PySem PySem.Spec PyProof.Rows L2
local instance (priority := 2000) keyBEq25 : BEq Key := instBEqOfDecidableEq
section
variable {P : Program} {w : World} {A : Around} {E : Value → Shared → Prop} {s : Shared}
theorem set_of_keysT {p : Addr} {its : Array Value} (ks : List Key) {Q : Value → Shared → Prop} (quiet : A.handled = none) (isl : s.heap.IsTuple p its) (hks : KeysAre P w its.toList ks) (few : ks.length + 1 < scanBound)
    (fin : ∀ (g : Heap) (tk : Nat), g.SetOf (mixKind P w) s.heap.objs.size (fun j => decide (j ∈ ks)) (ddK ks).length → (∀ b o, s.heap.get? b = some o → g.get? b = some o) → Q (.ref s.heap.objs.size) { s with heap := g, toks := tk }) : wpAny (model P w) A (call (.type "set") [.ref p]) Q E s := by
  have size : its.size = ks.length := by rw [← hks.1, Array.length_toList]
  have f1 := F.called_set.made
  have f2 := F.called_set.sub
  have f3 := F.called_set.notType
  have f4 := F.called_set.canCreate
  have f5 := F.typeCall_set_1 (.ref p)
  obtain ⟨_, _, f6⟩ := F.called_set.mro
  refine wpAny_call (codeAny_of_tree (?_ : wpAny _ _ (callAny (.type "set") _) _ _ _))
  refine wpAny_pure ⟨Code.quiet_builtin _ (by decide +kernel), codeAny_builtin F.entry_type_call ?_⟩
  rw [Around.under_plain (weight_type_call_type "set" [.ref p] []) rfl]
  repeat (any_goals (first | assumption | wp_step))
  refine codeAny_mono (code_set_led1 (.ref p) (E := E) (Q₁ := fun v t => v = .ref s.heap.objs.size ∧ t = { s with heap := s.heap.push (nSet w) }) ⟨rfl, rfl⟩) fun r1 t1 e1 => ?_
  rcases r1 with r1 | r1
  · exact e1
  cases r1 with
  | ret v =>
    obtain ⟨rfl, rfl⟩ := e1
    have at0 : (s.heap.push (nSet w)).get? s.heap.objs.size = some (nSet w) := Heap.get?_push_size _ rfl
    have ty : Shared.TypeIs { s with heap := s.heap.push (nSet w) } (.ref s.heap.objs.size) "set" := ⟨_, at0, rfl⟩
    have f7 := F.called_set.init.lookup
    have f8 := F.called_set.init.bind (.ref s.heap.objs.size)
    repeat (any_goals (first | assumption | wp_step))
    refine codeAny_mono (codeAny_call_builtin (R := wants (fun v t => v = .none ∧ ∃ g tk, t = { s with heap := g, toks := tk } ∧ g.SetOf (mixKind P w) s.heap.objs.size (fun j => decide (j ∈ ks)) (ddK ks).length ∧ ∀ b o, s.heap.get? b = some o → g.get? b = some o) E) F.called_set.init.plain F.entry_set_init (check_set_init_1 ty ?_)) fun r2 t2 e2 => ?_
    · obtain ⟨⟨c0, d0, dat, sl⟩, ho, hc, n0, hd⟩ := isl
      simp only at hc hd
      subst hc hd
      have there : (s.heap.push (nSet w)).get? p = some { cls := .type "tuple", dict := d0, data := .seq its n0, slots := sl } := Heap.get?_push_of_some _ ho
      have g1 := F.sub_tuple_set
      have g2 := F.sub_tuple_frozenset
      have g3 : (Value.type "tuple" == Value.type "dict") = false := by decide
      have isl2 : (s.heap.push (nSet w)).IsTuple p its := ⟨_, there, rfl, n0, rfl⟩
      unfold Builtin.«set.__init__» noKeywords Builtin.Frozenset.updateFrom
      generalize hI : pyIter = IT
      wp_walk
      subst hI
      refine wpAny_pyIter_tuple isl2 (wpAny_bind (wpAny_runValue ?_))
      have old : p < s.heap.objs.size := Heap.lt_size ho
      have it0 : (s.heap.push (nSet w)).objs.size = s.heap.objs.size + 1 := Heap.size_push ..
      have quiet3 : A.in1.in1.in1.handled = none := by simp [quiet]
      have apart : p ≠ (s.heap.push (nSet w)).objs.size := fun e => Nat.ne_of_lt (Nat.lt_succ_of_lt old) (e.trans it0)
      have outside : s.heap.objs.size ∉ [(s.heap.push (nSet w)).objs.size, p] := by
        intro z
        simp only [List.mem_cons, List.not_mem_nil, or_false] at z
        rcases z with z | z
        · exact Nat.ne_of_lt (Nat.lt_succ_self _) (z.trans it0)
        · exact Nat.ne_of_gt old z
      have new : ((s.heap.push (nSet w)).push { cls := .type "tuple_iterator", data := .fields #[.ref p, .int 0 0] }).SetOf (mixKind P w) s.heap.objs.size (fun j => decide (j ∈ ks.take 0)) (ddK (ks.take 0)).length :=
        ⟨_, #[], 0, _, Heap.get?_push_of_some _ at0, ⟨rfl, rfl, rfl⟩, rfl, (fun e he => by simp at he), (fun k => by simp), (by decide), (by rfl), rfl⟩
      refine set_update_keys ((Walks.tuple quiet3 _ p apart its).toS) s.heap.objs.size outside ks size few (fun i v hv => ?_) (its.size - 0) 0 _ (by omega) (Nat.zero_le _) ⟨⟨_, Heap.get?_push_size _ rfl, rfl, rfl⟩, isl2.push _⟩ new fun t3 mv fin3 => ?_
      · exact hks.2 i v (by rw [Array.getElem?_toList]; exact hv)
      · obtain ⟨g, gs, dr, tk, os⟩ := t3
        obtain rfl : gs = s.gens := mv.gens
        obtain rfl : dr = s.drawn := mv.drawn
        obtain rfl : os = s.os := mv.os
        show wpAny _ _ _ _ _ _
        refine wpAny_pure (?_ : wpAny _ _ (ret Value.none) _ _ _)
        refine wpAny_pure ⟨rfl, g, tk, rfl, fin3, fun b o e => mv.heap b o (fun z => ?_) (Heap.get?_push_of_some _ (Heap.get?_push_of_some _ e))⟩
        have hb := Heap.lt_size e
        simp only [List.mem_cons, List.not_mem_nil, or_false] at z
        rcases z with z | z
        · exact Nat.ne_of_lt hb z
        · exact Nat.ne_of_lt (Nat.lt_succ_of_lt hb) (z.trans it0)
    · rcases r2 with r2 | r2
      · exact e2
      cases r2 with
      | ret v =>
        obtain ⟨rfl, g, tk, rfl, h1, h3⟩ := e2
        repeat (any_goals (first | assumption | wp_step))
        exact fin _ _ h1 h3
      | _ => exact e2.elim
  | _ => exact e1.elim
end
section
variable {X : Cx} {ρ : En} {pos : Pos}
theorem call_setKT (hc : X.calm = true) : CallR X (.type "set") (fun vs H Q => ∃ (l : Addr) (ks : List Key), vs = [.ref l] ∧ SqT X.K H l (ks.map kV) ∧ ks.length + 1 < scanBound ∧ ∀ p, H p = none → Q (.ref p) (upd H p (SetK X.prog X.w p (fun j => decide (j ∈ ks)) (ddK ks).length))) := by
  intro pins s σ H vs us Q I r h
  obtain ⟨l, ks, rfl, hs, few, q⟩ := h
  rw [Vals.ref1 r]
  obtain ⟨its, rv, pl, hz⟩ := I.tuple hs
  refine set_of_keysT ks (I.ok.hd hc) pl (by simpa using keys_are rv) few fun g tk hS hk => ?_
  exact ⟨.ref _, _, I.laid (t' := tk) hk (Nat.le_refl _) (setK_new hS), rfl, q _ (I.hok.fresh (Nat.le_refl _))⟩
/-- len(set(e)) -/
theorem ed_lenSetKT {e : Expr} {ks : List Key} {p1 p2 q : Pos} (hc : X.calm = true) (hs : Gl X "len") (hms : X.mg "len" = none) (ht : Gl X "set") (hmt : X.mg "set" = none) (he : ED X ρ e (.tup (ks.map kD))) (few : ks.length + 1 < 4096)
    (h1 : starEach [e] X.env = (false, eval e X.env) :: starEach [] X.env := by rfl) (h2 : (backTo q (starEach [] X.env)).any (·.1) = false := by rfl)
    (h3 : starEach [.Call (.Name "set" p2) [e] [] q] X.env = (false, eval (.Call (.Name "set" p2) [e] [] q) X.env) :: starEach [] X.env := by rfl) (h4 : (backTo pos (starEach [] X.env)).any (·.1) = false := by rfl) :
    ED X ρ (.Call (.Name "len" p1) [.Call (.Name "set" p2) [e] [] q] [] pos) (.int ((ddK ks).length : Nat)) := fun B0 B σ H0 H Q j k => by
  refine RE.of (pe_callB call_lenK hs hms bb_len (pa_cons (pe_callTy (call_setKT hc) ht hmt bb_set (pa_cons pe_star pa_nil h1) (by decide) (by decide) h1 h2) pa_nil h3) (by decide) (by decide) h3 h4) ?_
  refine he B0 B σ H0 H _ j fun v G0 G g r => ?_
  obtain ⟨l, vs, rfl, hS, rr⟩ := r
  rw [kDs_val rr] at hS
  refine ⟨l, ks, rfl, Same.seqT g.sh hS, few, fun p hp => ?_⟩
  exact ⟨p, _, _, rfl, upd_same, k _ G0 _ (g.trans (JH.own g.sh hp)) rfl⟩
/-- a dict of the module, its keys texts: what stands at one of them -/
structure KdL (K : PySem.W.Frag) (w : World) (mg : Str → Option Value) (x z : Str) (d : D) : Prop where
  ex : ∃ p v, mg x = some (.ref p) ∧ KDct K w p z v ∧ ∀ H, DR K H d v
structure KdT (K : PySem.W.Frag) (w : World) (mg : Str → Option Value) (x : Str) (kds : List (Str × D)) : Prop where
  get : ∀ q ∈ kds, KdL K w mg x q.1 q.2
theorem kdl_mk {K : PySem.W.Frag} {w : World} {mg : Str → Option Value} {x z : Str} {d : D} {p : Addr} {es : Array DictEntry} {n : Nat} {u : Value} (h : mg x = some (.ref p)) (l : K.lookup p = some ⟨.type "dict", none, .dict es n, #[]⟩) (q : PySem.W.KeysLit w.params es.toList) (v : PySem.W.nsIn K p z = some (some u)) (kd : KD K d u) : KdL K w mg x z d := by
  obtain ⟨y, r, hy⟩ := kd
  exact ⟨p, y, h, ⟨es, n, u, l, q, v, r⟩, hy⟩
theorem ed_kdict {x z : Str} {d : D} {e : Expr} {p2 : Pos} (h : KdL X.K X.w X.mg x z d) (hg : Gl X x) (he : ED X ρ e (.str z)) (hs : PlainIx e := by exact fun _ _ => rfl) (hd : (x == ("__debug__" : Str)) = false := by decide) : ED X ρ (.Subscript (.Name x p2) e pos) d := fun B0 B σ H0 H Q j k => by
  obtain ⟨p, v, h1, h2, h3⟩ := h.ex
  refine RE.of (pe_ix ix_kdict (pe_glob (v := .ref p) hg h1 rfl hd) pe_star hs) ?_
  refine he B0 B σ H0 H _ j fun u G0 G g r => ?_
  exact ⟨p, z, v, rfl, r, h2, k v G0 G g (h3 G0)⟩
theorem ed_call0 {x : Str} {k : Nat} {R : List D → D → Prop} {d : D} {p : Pos} (G : Fn X.prog X.w X.K X.mg X.base x k R) (hr : Room k X.A) (hg : Gl X x) (hR : R [] d) (hdb : (x == ("__debug__" : Str)) = false := by decide) :
    ED X ρ (.Call (.Name x p) [] [] pos) d := fun B0 B σ H0 H Q j kk => by
  obtain ⟨f, fd, ps, F, hm, hk, hb⟩ := G.ex
  refine RE.of (pe_call0 (E := E0) F hr hg hm hk hb .nil pass0 hdb) ?_
  exact ⟨H0, [], d, j.same, rfl, hR, fun v L0 L g2 r2 => kk v L0 L g2 r2⟩
end
end DL
namespace DL
open PySem PySem.Spec PyProof.Rows L2
local instance (priority := 2000) keyBEqR : BEq Key := instBEqOfDecidableEq
def lays : List Str := ["well", "active", "poly", "contact", "metal", "via", "top"]
inductive Form : Str → Nat → Nat → Prop
  | width : Form "width" 1 1 | space : Form "space" 1 1 | area : Form "area" 1 1
  | apart : Form "apart" 2 1 | cover : Form "cover" 2 1 | size : Form "size" 1 2 | never : Form "never" 2 0
def lcT : List (Str × D) := [("width", .int 1), ("space", .int 1), ("apart", .int 2), ("cover", .int 2), ("area", .int 1), ("size", .int 1), ("never", .int 2)]
theorem lc_mem {k : Str} {a b : Nat} (h : Form k a b) : (k, D.int (a : Int)) ∈ lcT := by
  cases h
  · exact List.mem_cons_self
  · exact List.mem_cons_of_mem _ List.mem_cons_self
  · exact List.mem_cons_of_mem _ (List.mem_cons_of_mem _ (List.mem_cons_of_mem _ (List.mem_cons_of_mem _ List.mem_cons_self)))
  · exact List.mem_cons_of_mem _ (List.mem_cons_of_mem _ List.mem_cons_self)
  · exact List.mem_cons_of_mem _ (List.mem_cons_of_mem _ (List.mem_cons_of_mem _ List.mem_cons_self))
  · exact List.mem_cons_of_mem _ (List.mem_cons_of_mem _ (List.mem_cons_of_mem _ (List.mem_cons_of_mem _ (List.mem_cons_of_mem _ List.mem_cons_self))))
  · exact List.mem_cons_of_mem _ (List.mem_cons_of_mem _ (List.mem_cons_of_mem _ (List.mem_cons_of_mem _ (List.mem_cons_of_mem _ (List.mem_cons_of_mem _ List.mem_cons_self)))))
abbrev rDs (k : Str) (ls : List Str) (ns : List Int) : List D := .str k :: (ls.map D.str ++ ns.map D.int)
theorem form_len {k : Str} {a b : Nat} (h : Form k a b) : (a = 1 ∨ a = 2) ∧ b ≤ 2 := by cases h <;> decide
theorem sIx_in {n i d : Nat} (h : i ≤ n) : HT.sIx n d (some (i : Int)) = i := by
  unfold HT.sIx
  simp only [Option.map_some, Option.getD_some]
  split <;> omega
theorem rDs_len (k : Str) (ls : List Str) (ns : List Int) : (rDs k ls ns).length = 1 + ls.length + ns.length := by
  simp [rDs]; omega
theorem cut_ls (k : Str) (ls : List Str) (ns : List Int) : cutD (rDs k ls ns) (some 1) (some (1 + (ls.length : Int))) = ls.map D.str := by
  unfold cutD
  have h := rDs_len k ls ns
  rw [show (1 + (ls.length : Int)) = ((1 + ls.length : Nat) : Int) by omega, show (1 : Int) = ((1 : Nat) : Int) from rfl, sIx_in (by omega), sIx_in (by omega), Nat.add_sub_cancel_left]
  show (List.drop 1 (D.str k :: (ls.map D.str ++ ns.map D.int))).take ls.length = _
  rw [List.drop_succ_cons, List.drop_zero, ← List.length_map (f := D.str), List.take_left]
theorem cut_ns (k : Str) (ls : List Str) (ns : List Int) : cutD (rDs k ls ns) (some (1 + (ls.length : Int))) none = ns.map D.int := by
  unfold cutD
  have h := rDs_len k ls ns
  rw [show (1 + (ls.length : Int)) = ((1 + ls.length : Nat) : Int) by omega, sIx_in (by omega)]
  show (List.drop (1 + ls.length) (D.str k :: (ls.map D.str ++ ns.map D.int))).take ((rDs k ls ns).length - (1 + ls.length)) = _
  rw [h, Nat.add_comm 1 ls.length, List.drop_succ_cons, ← List.length_map (f := D.str), List.drop_left, List.length_map, show ls.length + 1 + ns.length - (ls.length + 1) = ns.length by omega, ← List.length_map (f := D.int) (as := ns), List.take_length]
def least (k : Str) : Int := if decide (k ∈ (["apart", "cover"] : List Str)) = true then 0 else 1
theorem nd_one {l : Str} : (decide (((ddK ([l].map (fun l => (Sum.inr l : Key)))).length : Int) = (([l] : List Str).length : Int))) = true := by
  rw [ddK_nodup _ (by simp)]; simp
theorem nd_two {a b : Str} : (decide (((ddK ([a, b].map (fun l => (Sum.inr l : Key)))).length : Int) = (([a, b] : List Str).length : Int))) = !decide (a = b) := by
  by_cases e : a = b
  · subst e
    have h : ¬ ([a, a].map (fun l => (Sum.inr l : Key))).Nodup := by simp
    have h2 := ddK_lt _ h
    rw [decide_eq_false (by simp only [List.length_map] at h2 ⊢; omega), decide_eq_true rfl]; rfl
  · rw [ddK_nodup _ (by simpa using e), decide_eq_false e]; simp
def numL (c : Int) : List Int := [-1, 0, 1, 2, 999, 1000, 1001, dr c 6 2 % 1000]
end DL
namespace DL
open PySem L2
def ltr : Str := "abcdefghijklmnopqrstuvwxyz"
def tls : List Str := ["", "1", "n2", "ab", "z9", "q0q"]
theorem ltr_len : ltr.cps.toList.length = 26 := by decide +kernel
theorem at_ltr {i : Int} (h0 : 0 ≤ i) (h1 : i < 26) : atI ltr.cps.toList i = some (ltr.cps.toList.getD i.toNat 0) := by
  refine atI_nn h0 ?_
  have : i.toNat < ltr.cps.toList.length := by rw [ltr_len]; omega
  rw [List.getD_eq_getElem?_getD, List.getElem?_eq_getElem this]; rfl
theorem at_tls {i : Int} (h0 : 0 ≤ i) (h1 : i < 6) : atI (tls.map D.str) i = some (.str (tls.getD i.toNat "")) := by
  refine atI_nn h0 ?_
  have : i.toNat < tls.length := by show i.toNat < 6; omega
  rw [List.getElem?_map, List.getD_eq_getElem?_getD, List.getElem?_eq_getElem this]; rfl
theorem tls_len (i : Nat) : (tls.getD i "").length ≤ 3 := by
  match i with
  | 0 => decide +kernel
  | 1 => decide +kernel
  | 2 => decide +kernel
  | 3 => decide +kernel
  | 4 => decide +kernel
  | 5 => decide +kernel
  | i + 6 => 
    rw [List.getD_eq_getElem?_getD, List.getElem?_eq_none (by show 6 ≤ i + 6; omega)]
    decide +kernel
def nmOf (d : Int) : Str := (⟨#[ltr.cps.toList.getD (d % 26).toNat 0]⟩ : Str) ++ tls.getD (d / 26 % 6).toNat ""
end DL
namespace DL
open PySem PySem.Spec PyProof.Rows L2
open PySem.W (AllAlike Sortable dataLe alike)
def loB (c : Nat) : Bool := decide (97 ≤ c) && decide (c ≤ 122)
def chB (c : Nat) : Bool := loB c || (decide (48 ≤ c) && decide (c ≤ 57))
def nameB (x : Str) : Bool := (decide (1 ≤ x.length) && decide (x.length ≤ 12)) && (loB (x.cps.toList.getD 0 0) && x.cps.toList.all chB)
structure Dev where
  k : Str
  g : Int
  a : Int
  b : Int
  w : Int
  l : Int
deriving DecidableEq
def Dev.e (v : Dev) : D := .tup [.str v.k, .int v.g, .int v.a, .int v.b, .int v.w, .int v.l]
abbrev Nm := Int × Str
structure DevOk (n : Int) (v : Dev) : Prop where
  k : v.k = ("n" : Str) ∨ v.k = ("p" : Str)
  g : 0 ≤ v.g ∧ v.g < n
  e : 0 ≤ v.a ∧ v.a ≤ v.b ∧ v.b < n
  w : 1 ≤ v.w
  l : 1 ≤ v.l
structure CirOk (n : Int) (N : List Nm) (V : List Dev) : Prop where
  nn : 0 ≤ n ∧ n ≤ 200
  nm : ∀ q ∈ N, (0 ≤ q.1 ∧ q.1 < n) ∧ nameB q.2 = true
  d1 : (N.map (·.1)).Nodup
  d2 : (N.map (·.2)).Nodup
  nl : N.length ≤ 1000
  vl : V.length ≤ 200
  dv : ∀ v ∈ V, DevOk n v
theorem at_first {x : Str} {k : Bool} (h : (!(decide ((1 : Int) ≤ (x.length : Int)) && k)) = false) : atI x.cps.toList 0 = some (x.cps.toList.getD 0 0) := by
  have h1 : 1 ≤ x.length := by
    simp only [Bool.not_eq_false', Bool.and_eq_true, decide_eq_true_eq] at h
    omega
  refine atI_nn (by decide) ?_
  have : (0 : Int).toNat < x.cps.toList.length := by rw [Array.length_toList]; exact h1
  rw [List.getElem?_eq_getElem this, List.getD_eq_getElem?_getD, List.getElem?_eq_getElem (by exact this)]
  rfl
theorem name_no {x : Str} (h : ((!(decide ((1 : Int) ≤ (x.length : Int)) && decide ((x.length : Int) ≤ 12))) || (!(decide (97 ≤ x.cps.toList.getD 0 0) && decide (x.cps.toList.getD 0 0 ≤ 122)))) = true) : nameB x = false := by
  unfold nameB loB
  rw [show decide (1 ≤ x.length) = decide ((1 : Int) ≤ (x.length : Int)) from decide_eq_decide.mpr (by omega), show decide (x.length ≤ 12) = decide ((x.length : Int) ≤ 12) from decide_eq_decide.mpr (by omega)]
  revert h
  generalize (decide ((1 : Int) ≤ (x.length : Int)) && decide ((x.length : Int) ≤ 12)) = p
  generalize (decide (97 ≤ x.cps.toList.getD 0 0) && decide (x.cps.toList.getD 0 0 ≤ 122)) = q
  cases p <;> cases q <;> simp
theorem name_yes {x : Str} (h : ((!(decide ((1 : Int) ≤ (x.length : Int)) && decide ((x.length : Int) ≤ 12))) || (!(decide (97 ≤ x.cps.toList.getD 0 0) && decide (x.cps.toList.getD 0 0 ≤ 122)))) = false) : nameB x = (x.cps.toList.map chB).all id := by
  unfold nameB loB
  rw [show decide (1 ≤ x.length) = decide ((1 : Int) ≤ (x.length : Int)) from decide_eq_decide.mpr (by omega), show decide (x.length ≤ 12) = decide ((x.length : Int) ≤ 12) from decide_eq_decide.mpr (by omega)]
  revert h
  generalize (decide ((1 : Int) ≤ (x.length : Int)) && decide ((x.length : Int) ≤ 12)) = p
  generalize (decide (97 ≤ x.cps.toList.getD 0 0) && decide (x.cps.toList.getD 0 0 ≤ 122)) = q
  cases p <;> cases q <;> simp [List.all_map]
theorem bc_tupSeq {X : Cx} {d : D} {ds : List D} (h : SeqD d ds) : BC X (.type "tuple") [d] (.tup ds) := by
  cases h with
  | lst => exact bc_tupL
  | tup => exact bc_tupT
theorem nameB_len {x : Str} (h : nameB x = true) : x.length ≤ 12 := by
  unfold nameB at h
  simp only [Bool.and_eq_true, decide_eq_true_eq] at h
  exact h.1.2
end DL
namespace DL
open PySem PySem.Spec PyProof.Rows L2
def nmPre (d : Int) : Str := cutS (nmOf d) none (some 7)
def preOk (x : Str) : Bool := (decide (1 ≤ x.length) && decide (x.length ≤ 4)) && (loB (x.cps.toList.getD 0 0) && x.cps.toList.all chB)
theorem pre_all : ∀ a : Fin 26, ∀ b : Fin 6, preOk (cutS ((⟨#[ltr.cps.toList.getD a.val 0]⟩ : Str) ++ tls.getD b.val "") none (some 7)) = true := by decide +kernel
theorem pre_ok (d : Int) : preOk (nmPre d) = true := by
  have h1 : (d % 26).toNat < 26 := by omega
  have h2 : (d / 26 % 6).toNat < 6 := by omega
  exact pre_all ⟨_, h1⟩ ⟨_, h2⟩
def digB (c : Nat) : Bool := decide (48 ≤ c) && decide (c ≤ 57)
theorem dig_all : ∀ a : Fin 64, let x := Str.ofString (toString ((a.val : Nat) : Int)); (decide (1 ≤ x.length) && decide (x.length ≤ 2) && x.cps.toList.all digB) = true := by decide +kernel
theorem dig_inj : ∀ a b : Fin 64, (Str.ofString (toString ((a.val : Nat) : Int))).cps.toList = (Str.ofString (toString ((b.val : Nat) : Int))).cps.toList → a = b := by decide +kernel
theorem all_app {x y : Str} {p : Nat → Bool} : (x ++ y).cps.toList.all p = (x.cps.toList.all p && y.cps.toList.all p) := by
  show (x.cps ++ y.cps).toList.all p = _
  rw [Array.toList_append, List.all_append]
theorem len_app (x y : Str) : (x ++ y).length = x.length + y.length := Array.size_append
theorem cps_app (x y : Str) : (x ++ y).cps.toList = x.cps.toList ++ y.cps.toList := by
  show (x.cps ++ y.cps).toList = _
  rw [Array.toList_append]
theorem dig_ok {n : Nat} (h : n < 64) : (1 ≤ (Str.ofString (toString (n : Int))).length ∧ (Str.ofString (toString (n : Int))).length ≤ 2) ∧ (Str.ofString (toString (n : Int))).cps.toList.all digB = true := by
  have := dig_all ⟨n, h⟩
  simp only [Bool.and_eq_true, decide_eq_true_eq] at this
  exact this
theorem chB_of {c : Nat} (h : digB c = true) : chB c = true := by
  unfold chB; unfold digB at h; rw [h, Bool.or_true]
theorem tail_eq {x : Nat} {P P' D D' : List Nat} (hD : ∀ c ∈ D, c ≠ x) (hD' : ∀ c ∈ D', c ≠ x) (h : P ++ x :: D = P' ++ x :: D') : D = D' := by
  have h1 : ∀ (P D : List Nat), (∀ c ∈ D, c ≠ x) → ((P ++ x :: D).reverse.takeWhile (fun c => decide (c ≠ x))) = D.reverse := fun P D hD => by
    rw [List.reverse_append, List.reverse_cons, List.append_assoc, List.takeWhile_append_of_pos]
    · simp
    · intro c hc
      exact decide_eq_true (hD c (List.mem_reverse.mp hc))
  have := congrArg (fun l => l.reverse.takeWhile (fun c => decide (c ≠ x))) h
  simp only [h1 P D hD, h1 P' D' hD'] at this
  exact List.reverse_inj.mp this
theorem nmOf_len (d : Int) : (nmOf d).length ≤ sizeLine := by
  have h := tls_len (d / 26 % 6).toNat
  unfold nmOf
  rw [len_app, sizeLine_eq]
  have : (⟨#[ltr.cps.toList.getD (d % 26).toNat 0]⟩ : Str).length = 1 := rfl
  omega
theorem pre_len (d : Int) : (nmPre d).length ≤ 4 := by
  have h1 := pre_ok d
  unfold preOk at h1
  simp only [Bool.and_eq_true, decide_eq_true_eq] at h1
  exact h1.1.2
theorem log_small {n m : Nat} (h : n < m) (hm : m ≤ 100) : ((n : Int)).natAbs.log2 < 1920 := by
  rw [Int.natAbs_natCast]
  by_cases h0 : n = 0
  · subst h0; decide
  · rw [Nat.log2_lt h0]
    have : n < 2 ^ 7 := by omega
    exact Nat.lt_of_lt_of_le this (Nat.pow_le_pow_right (by decide) (show 7 ≤ 1920 by omega))
end DL
namespace DL
open PySem PySem.Spec PyProof.Rows L2
local instance (priority := 2000) keyBEq26 : BEq Key := instBEqOfDecidableEq
section
variable {X : Cx} {ρ : En} {pos : Pos}
theorem td_lend (i : Nat) {c : OC} {e : Expr} {k : Bool} (hi : ρ[i]? = some (.ow c)) (h : TD X (ρ.set i (.sh c.d)) e k) : TD X ρ e k := fun B0 B σ H0 H Q j kk => by
  obtain ⟨H1, j', s1⟩ := j.share hi
  exact h B0 B σ H1 H Q j' fun L0 L g => kk H0 L ⟨Same.refl _, (s1.trans g.s0).trans g.sh, g.sB, fun a o _ _ n => n⟩
end
end DL
namespace DL
open PySem PySem.Spec PyProof.Rows L2
mutual
def noL : D → Bool
  | .lst _ => false
  | .tup ds => noLs ds
  | .dk _ ds => noLs ds
  | .dt _ ds => noLs ds
  | .obj _ _ ds => noLs ds
  | .ptp ds => noLs ds
  | .etp ds => noLs ds
  | .exc _ _ _ ds => noLs ds
  | _ => true
def noLs : List D → Bool
  | [] => true
  | d :: ds => noL d && noLs ds
end
theorem er_rd {H : Hp} {a : Addr} {xs : List V} (h : H a = some (.lst xs)) {b : Addr} {u : HO} (hu : ∀ ys, u ≠ .lst ys) (r : Rd H b u) : Rd (er H a) b u := by
  rcases r with r | ⟨o, r⟩
  · have : b ≠ a := fun e => by subst e; rw [h] at r; cases r; exact hu _ rfl
    exact .inl (by rw [er_ne this]; exact r)
  · have : b ≠ a := fun e => by subst e; rw [h] at r; cases r
    exact .inr ⟨o, by rw [er_ne this]; exact r⟩
theorem er_sqT {K : PySem.W.Frag} {H : Hp} {a : Addr} {xs : List V} (h : H a = some (.lst xs)) {b : Addr} {vs : List V} (r : SqT K H b vs) : SqT K (er H a) b vs := by
  rcases r with r | r
  · exact .inl (er_rd h (fun _ z => by cases z) r)
  · exact .inr r
mutual
theorem er_dr {K : PySem.W.Frag} {H : Hp} {a : Addr} {xs : List V} (h : H a = some (.lst xs)) : ∀ (d : D) (v : V), noL d = true → DR K H d v → DR K (er H a) d v
  | .non, v, _, r => r
  | .bl _, v, _, r => r
  | .int _, v, _, r => r
  | .str _, v, _, r => r
  | .ty _, v, _, r => r
  | .lst _, v, n, _ => by cases n
  | .tup ds, v, n, r => by
    obtain ⟨b, vs, h1, h2, h3⟩ := r
    exact ⟨b, vs, h1, er_sqT h h2, er_drs h ds vs n h3⟩
  | .dk ks ds, v, n, r => by
    obtain ⟨b, vs, h1, h2, h4, h3⟩ := r
    exact ⟨b, vs, h1, er_rd h (fun _ z => by cases z) h2, h4, er_drs h ds vs n h3⟩
  | .dt ks ds, v, n, r => by
    obtain ⟨b, vs, h1, h2, h4, h3⟩ := r
    exact ⟨b, vs, h1, er_rd h (fun _ z => by cases z) h2, h4, er_drs h ds vs n h3⟩
  | .obj cn ns ds, v, n, r => by
    obtain ⟨b, C, dx, vs, h1, hn, h2, h4, h3⟩ := r
    have : b ≠ a := fun e => by subst e; rw [h] at h2; cases h2
    exact ⟨b, C, dx, vs, h1, hn, by rw [er_ne this]; exact h2, h4, er_drs h ds vs n h3⟩
  | .ad _, v, _, r => r
  | .exc _ x ns ds, v, n, r => by
    obtain ⟨h1, vs, h2, h4, h3⟩ := r
    have : x ≠ a := fun e => by subst e; rw [h] at h2; cases h2
    exact ⟨h1, vs, by rw [er_ne this]; exact h2, h4, er_drs h ds vs n h3⟩
  | .etp ds, v, n, r => by
    obtain ⟨b, vs, h1, h2, h3⟩ := r
    have : b ≠ a := fun e => by subst e; rw [h] at h2; cases h2
    exact ⟨b, vs, h1, by rw [er_ne this]; exact h2, er_drs h ds vs n h3⟩
  | .ptp ds, v, n, r => by
    obtain ⟨b, o, vs, h1, h2, h4, h3⟩ := r
    have : b ≠ a := fun e => by subst e; rw [h] at h2; cases h2
    exact ⟨b, o, vs, h1, by rw [er_ne this]; exact h2, h4, er_drs h ds vs n h3⟩
theorem er_drs {K : PySem.W.Frag} {H : Hp} {a : Addr} {xs : List V} (h : H a = some (.lst xs)) : ∀ (ds : List D) (vs : List V), noLs ds = true → DRs K H ds vs → DRs K (er H a) ds vs
  | [], vs, _, r => r
  | d :: ds, vs, n, r => by
    obtain ⟨v, w, h1, h2, h3⟩ := r
    have n' : (noL d && noLs ds) = true := n
    rw [Bool.and_eq_true] at n'
    exact ⟨v, w, h1, er_dr h d v n'.1 h2, er_drs h ds w n'.2 h3⟩
end
end DL
namespace DL
open PySem PySem.Spec PyProof.Rows L2
theorem putF_old {f : Str} {y : V} : ∀ {ns : List Str} {vs : List V} {m : Nat}, ns[m]? = some f → (ns.take m).contains f = false → ns.length = vs.length → putF f y (ns.zip vs) = ns.zip (vs.set m y)
  | n :: ns, v :: vs, 0, h, _, hl => by
    simp only [List.getElem?_cons_zero, Option.some.injEq] at h
    subst h
    show (if n = n then (n, y) :: ns.zip vs else _) = _
    rw [if_pos rfl]; rfl
  | n :: ns, v :: vs, m + 1, h, hc, hl => by
    rw [List.take_succ_cons, List.contains_cons, Bool.or_eq_false_iff] at hc
    have hne : ¬ (n = f) := fun e => by rw [e] at hc; simp at hc
    show (if n = f then _ else (n, v) :: putF f y (ns.zip vs)) = _
    rw [if_neg hne, putF_old (by simpa using h) hc.2 (by simpa using hl)]
    rfl
  | [], _, _, h, _, _ => by simp at h
  | n :: ns, [], _, _, _, hl => by simp at hl
section
variable {X : Cx} {ρ : En} {e : Expr} {pos : Pos} {cn f : Str} {ns fs : List Str} {ds : List D} {d : D}
/-- x.extend(e), x the list that slot i owns, e a new list -/
theorem ws_extendL (i : Nat) {x : Str} {zs : List D} {p1 p2 p3 : Pos} {Φ : Out → Prop} (hi : ρ[i]? = some (.ow (.lst ds))) (he : EO X ρ e (.lst zs)) (hl : ds.length + zs.length ≤ sizeLine) (hΦ : Φ (.nx (ρ.set i (.ow (.lst (ds ++ zs))))))
    (hpe : ∀ {ta : TA}, PA X [e] ta → PS X (.Expr (.Call (.Attribute (.Name x p1) "extend" p2) [e] [] p3) pos) (tDrop (tBM X.K "list" rExtend (tVar i) ta)))
    (hs : starEach [e] X.env = (false, eval e X.env) :: starEach [] X.env := by rfl) :
    WS X (.Expr (.Call (.Attribute (.Name x p1) "extend" p2) [e] [] p3) pos) ρ Φ := fun B0 B σ H0 H Dn j k => by
  obtain ⟨ov, e0, a, o, rfl, w1, w2, w3, w4⟩ := j.get hi
  obtain ⟨vs0, rfl, r0⟩ := w4
  refine ⟨_, hpe (pa_cons pe_star pa_nil hs), _, e0, Or.inl ⟨rfl, _, Or.inl (Or.inl w1)⟩, he B0 B σ H0 H _ j fun q o G0 G g y1 y2 y3 y4 => ?_⟩
  obtain ⟨ws, rfl, rw⟩ := y4
  have j1 := j.grow g
  obtain ⟨ov, e1, a', o, e9, w1, w2, w3, w4⟩ := j1.get hi
  rw [e0] at e1; cases e1; cases e9
  obtain ⟨vs, rfl, r'⟩ := w4
  exact ⟨a, q, vs, ws, rfl, rfl, w1, y1, by rw [← DRs.length r', ← DRs.length rw]; exact hl, k _ hΦ _ G0 _ (j1.write hi e0 ⟨_, rfl, DRs.app r' rw⟩)⟩
end
end DL
namespace DL
open PySem PySem.Spec PyProof.Rows L2
theorem kit_ty {K : PySem.W.Frag} {C : Addr} {T : String} {b : Bool} (h4 : PySem.W.subIn K (.ref C) (.type T) = some b) (hm : PySem.W.kitMeta T = true := by decide +kernel) : PySem.W.kitOne K (.ref C) (.type T) = some b := by
  unfold PySem.W.kitOne
  rw [if_neg (show ¬ ((Value.ref C == Value.type T) = true) from Bool.false_ne_true)]
  show (if PySem.W.kitMeta T = true then PySem.W.subIn K (.ref C) (.type T) else none) = some b
  rw [if_pos hm]; exact h4
end DL
namespace DL
open PySem PySem.Spec PyProof.Rows L2
def layN : List Str := ["well", "active", "poly", "contact", "metal", "via", "top"]
def labN : List Str := ["active", "poly", "metal", "top"]
abbrev Shp := Str × Bx
def shB (s : Shp) : Bool := decide (s.1 ∈ layN) && (decide (s.2.a < s.2.c) && decide (s.2.b < s.2.d))
structure Lab where
  n : Str
  l : Str
  x : Int
  y : Int
def Lab.e (v : Lab) : D := .tup [.str v.n, .str v.l, .int v.x, .int v.y]
def labB (v : Lab) : Bool := nameB v.n && decide (v.l ∈ labN)
structure Pla where
  n : Str
  t : Int
  dx : Int
  dy : Int
  c : Int
  r : Int
  sx : Int
  sy : Int
def Pla.e (v : Pla) : D := .tup [.str v.n, .tup [.int v.t, .int v.dx, .int v.dy], .int v.c, .int v.r, .int v.sx, .int v.sy]
def plaB (v : Pla) : Bool := nameB v.n && ((decide (0 ≤ v.t) && decide (v.t < 8)) && ((decide (1 ≤ v.c) && decide (v.c ≤ 100)) && (decide (1 ≤ v.r) && decide (v.r ≤ 100))))
def celB (n : Str) (S : List Shp) (L : List Lab) (P : List Pla) : Bool := nameB n && (S.all shB && (L.all labB && P.all plaB))
structure CelOk (n : Str) (S : List Shp) (L : List Lab) (P : List Pla) : Prop where
  n : nameB n = true
  s : ∀ x ∈ S, shB x = true
  l : ∀ x ∈ L, labB x = true
  p : ∀ x ∈ P, plaB x = true
theorem CelOk.b {n : Str} {S : List Shp} {L : List Lab} {P : List Pla} (ok : CelOk n S L P) : celB n S L P = true := by
  unfold celB
  rw [ok.n, List.all_eq_true.mpr ok.s, List.all_eq_true.mpr ok.l, List.all_eq_true.mpr ok.p]; rfl
theorem at_getC {α : Type} {xs : List α} {f : α → D} {i : Int} {a : α} (h : 0 ≤ i ∧ i < xs.length) : atI (xs.map f) i = some (f (xs.getD i.toNat a)) := by
  have hi : i.toNat < xs.length := by omega
  refine atI_nn h.1 ?_
  rw [List.getElem?_map, List.getElem?_eq_getElem hi, List.getD_eq_getElem?_getD, List.getElem?_eq_getElem hi]
  rfl
def MD : Nat → D → Prop
  | 0, d => (∃ i, d = .int i) ∨ ∃ z, d = .str z
  | k + 1, d => ((∃ i, d = .int i) ∨ ∃ z, d = .str z) ∨ ∃ es, d = .tup es ∧ es.length ≤ 1000 ∧ ∀ e ∈ es, MD k e
class MdC (k : Nat) (d : D) (P : outParam Prop) where
  out : MD k d → P
instance (d : D) : MdC 0 d ((∃ i, d = .int i) ∨ ∃ z, d = .str z) := ⟨fun h => h⟩
instance (k : Nat) (d : D) : MdC (k + 1) d ((∃ i, d = .int i) ∨ (∃ z, d = .str z) ∨ ∃ es, d = .tup es ∧ es.length ≤ 1000 ∧ ∀ e ∈ es, MD k e) := ⟨fun h => by
  rcases h with (h | h) | h
  · exact .inl h
  · exact .inr (.inl h)
  · exact .inr (.inr h)⟩
theorem md_cases {k : Nat} {d : D} {P : Prop} [c : MdC k d P] (h : MD k d) : P := c.out h
theorem getD_mem {α : Type} {xs : List α} {i : Int} {a : α} (h : 0 ≤ i ∧ i < xs.length) : xs.getD i.toNat a ∈ xs := by
  have hi : i.toNat < xs.length := by omega
  rw [List.getD_eq_getElem?_getD, List.getElem?_eq_getElem hi]
  exact List.getElem_mem hi
theorem MD.up : ∀ {k : Nat} {d : D}, MD k d → MD (k + 1) d
  | 0, d, h => .inl h
  | k + 1, d, h => by
    rcases h with h | ⟨es, e, h1, h2⟩
    · exact .inl h
    · exact .inr ⟨es, e, h1, fun x hx => MD.up (h2 x hx)⟩
theorem md_int {k : Nat} {i : Int} : MD k (.int i) := by
  cases k with
  | zero => exact .inl ⟨i, rfl⟩
  | succ k => exact .inl (.inl ⟨i, rfl⟩)
theorem md_str {k : Nat} {z : Str} : MD k (.str z) := by
  cases k with
  | zero => exact .inr ⟨z, rfl⟩
  | succ k => exact .inl (.inr ⟨z, rfl⟩)
theorem md_tup {k : Nat} {es : List D} (h : es.length ≤ 1000) (h2 : ∀ e ∈ es, MD k e) : MD (k + 1) (.tup es) := .inr ⟨es, rfl, h, h2⟩
theorem md_nil {k : Nat} : ∀ e ∈ ([] : List D), MD k e := fun e he => by simp at he
theorem md_cons {k : Nat} {d : D} {ds : List D} (h : MD k d) (r : ∀ e ∈ ds, MD k e) : ∀ e ∈ d :: ds, MD k e := fun e he => by
  rcases List.mem_cons.mp he with rfl | he
  · exact h
  · exact r e he
def nmX (n : Str) (d : Int) : Str := ([n, "abcdefgh1234", "q"] : List Str).getD (d % 3).toNat ""
theorem nmX_ok {n : Str} {d : Int} (h : nameB n = true) : nameB (nmX n d) = true := by
  have hm := getD_mem (xs := ([n, "abcdefgh1234", "q"] : List Str)) (i := d % 3) (a := "") (by show _ ∧ _ < (3 : Int); omega)
  have hm2 : nmX n d ∈ ([n, "abcdefgh1234", "q"] : List Str) := hm
  simp only [List.mem_cons, List.not_mem_nil, or_false] at hm2
  rcases hm2 with e | e | e <;> rw [e]
  · exact h
  · decide +kernel
  · decide +kernel
def zzP (d : Int) : Pla := ⟨"zz", 7, 100000000000000000000, -5, 100, 1 + d % 100, -d, 1000000000000000⟩
theorem zzP_ok (d : Int) : plaB (zzP d) = true := by
  unfold plaB
  rw [show nameB (zzP d).n = true from (by decide +kernel : nameB "zz" = true)]
  simp only [Bool.true_and, Bool.and_eq_true, decide_eq_true_eq]
  exact ⟨⟨by show (0 : Int) ≤ 7; decide, by show (7 : Int) < 8; decide⟩, ⟨by show (1 : Int) ≤ 100; decide, by show (100 : Int) ≤ 100; decide⟩, show 1 ≤ 1 + d % 100 by omega, show 1 + d % 100 ≤ 100 by omega⟩
theorem CelOk.more {n : Str} {S : List Shp} {L : List Lab} {P : List Pla} (ok : CelOk n S L P) (d : Int) : CelOk (nmX n d) S L (P ++ [zzP d]) := ⟨nmX_ok ok.n, ok.s, ok.l, fun x hx => by
  rcases List.mem_append.mp hx with h | h
  · exact ok.p x h
  · rw [List.mem_singleton] at h; subst h; exact zzP_ok d⟩
end DL
namespace DL
open PySem PySem.Spec PyProof.Rows L2
theorem CirOk.perm {n : Int} {N M : List Nm} {V : List Dev} (ok : CirOk n N V) (p : M.Perm N) : CirOk n M V :=
  ⟨ok.nn, fun q hq => ok.nm q (p.mem_iff.mp hq), (p.map _).nodup_iff.mpr ok.d1, (p.map _).nodup_iff.mpr ok.d2, by rw [p.length_eq]; exact ok.nl, ok.vl, ok.dv⟩
end DL
namespace DL
open PySem PySem.Spec PyProof.Rows L2
/-- alike but for a dict at a, that is locked in one -/
structure Fz (a : Addr) (t : List (List Key × V)) (H H' : Hp) : Prop where
  at1 : Rd H a (.dT t)
  at2 : Rd H' a (.dT t)
  ne : ∀ b, b ≠ a → H' b = H b
theorem Rd.uniq {H : Hp} {a : Addr} {u w : HO} (h : Rd H a u) (k : Rd H a w) (hu : ∀ o x, u ≠ .frz o x) (hw : ∀ o x, w ≠ .frz o x) : u = w := by
  rcases h with h | ⟨o, h⟩ <;> rcases k with k | ⟨o', k⟩
  · exact Option.some.inj (h.symm.trans k)
  · exact absurd (Option.some.inj (h.symm.trans k)) (hu _ _)
  · exact absurd (Option.some.inj (k.symm.trans h)) (hw _ _)
  · have := Option.some.inj (h.symm.trans k); injection this
theorem Fz.rd {a : Addr} {t : List (List Key × V)} {H H' : Hp} (f : Fz a t H H') {b : Addr} {u : HO} (hu : ∀ o x, u ≠ .frz o x) (h : Rd H b u) : Rd H' b u := by
  by_cases e : b = a
  · subst e
    rw [Rd.uniq h f.at1 hu (fun _ _ z => by cases z)]
    exact f.at2
  · rcases h with h | ⟨o, h⟩
    · exact .inl (by rw [f.ne b e]; exact h)
    · exact .inr ⟨o, by rw [f.ne b e]; exact h⟩
theorem c2_notInSq {X : Cx} {p1 p2 : Int} {ks : List Sq} (hu : X.A.units + 64 < cLine) : C2 X .NotIn (.tup [.int p1, .int p2]) (dicD ks).d (.bl (!decide ((p1, p2) ∈ ks))) := ⟨_, op_notInSq (by omega), fun H0 H x y Q s r1 r2 kk => by
  obtain ⟨b, vs, rfl, f1, r⟩ := r1
  obtain ⟨u, w, rfl, e2, e3⟩ := r.two
  cases (show u = .int p1 from e2); cases (show w = .int p2 from e3)
  obtain ⟨a, rfl, h1⟩ := dr_dic r2
  exact ⟨a, b, _, kq (p1, p2), rfl, rfl, Same.rd s h1, Same.seqT s f1, by rw [tT_val]; exact kk _ H0 H (JH.refl s) rfl⟩⟩
end DL
namespace DL
open PySem PySem.Spec PyProof.Rows L2
theorem DevOk.up {n m : Int} {v : Dev} (h : DevOk n v) (hm : n ≤ m) : DevOk m v := ⟨h.k, ⟨h.g.1, by have := h.g.2; omega⟩, ⟨h.e.1, h.e.2.1, by have := h.e.2.2; omega⟩, h.w, h.l⟩
theorem CirOk.up {n : Int} {N : List Nm} {V : List Dev} (ok : CirOk n N V) (h : n ≤ 100) : CirOk (n + 1) N V :=
  ⟨by have := ok.nn; omega, fun q hq => ⟨by have := (ok.nm q hq).1; omega, (ok.nm q hq).2⟩, ok.d1, ok.d2, ok.nl, ok.vl, fun v hv => (ok.dv v hv).up (by omega)⟩
theorem CirOk.more {n : Int} {N : List Nm} {V : List Dev} {z : Str} (ok : CirOk n N V) (h : n ≤ 100) (hl : N.length ≤ 100) (hz : nameB z = true) (hn : ∀ q ∈ N, q.2 ≠ z) : CirOk (n + 1) (N ++ [(n, z)]) V := by
  have up := ok.up h
  refine ⟨up.nn, fun q hq => ?_, ?_, ?_, by rw [List.length_append]; simp only [List.length_cons, List.length_nil]; omega, ok.vl, up.dv⟩
  · rcases List.mem_append.mp hq with hq | hq
    · exact up.nm q hq
    · rw [List.mem_singleton] at hq; subst hq
      exact ⟨by have := ok.nn; simp only; omega, hz⟩
  · rw [List.map_append, List.nodup_append]
    refine ⟨ok.d1, by simp, fun a ha b hb e => ?_⟩
    obtain ⟨q, hq, rfl⟩ := List.mem_map.mp ha
    simp only [List.map_cons, List.map_nil, List.mem_singleton] at hb
    have := (ok.nm q hq).1
    omega
  · rw [List.map_append, List.nodup_append]
    refine ⟨ok.d2, by simp, fun a ha b hb e => ?_⟩
    obtain ⟨q, hq, rfl⟩ := List.mem_map.mp ha
    simp only [List.map_cons, List.map_nil, List.mem_singleton] at hb
    exact hn q hq (e.trans hb)
theorem CirOk.devs {n : Int} {N : List Nm} {V W : List Dev} (ok : CirOk n N V) (h : W.length ≤ 200) (hd : ∀ v ∈ W, DevOk n v) : CirOk n N W := ⟨ok.nn, ok.nm, ok.d1, ok.d2, ok.nl, h, hd⟩
theorem CirOk.names {n : Int} {N M : List Nm} {V : List Dev} (ok : CirOk n N V) (h : M.Sublist N) : CirOk n M V :=
  ⟨ok.nn, fun q hq => ok.nm q (h.subset hq), (h.map _).nodup ok.d1, (h.map _).nodup ok.d2, Nat.le_trans h.length_le ok.nl, ok.vl, ok.dv⟩
def zz : Str := "zz9z"
theorem zz_ok : nameB zz = true := by decide +kernel
def wid (v : Dev) : Dev := ⟨v.k, v.g, v.a, v.b, v.w + 1, v.l⟩
theorem wid_ok {n : Int} {v : Dev} (h : DevOk n v) : DevOk n (wid v) := ⟨h.k, h.g, h.e, by have := h.w; show 1 ≤ v.w + 1; omega, h.l⟩
/-- all the law needs of a drawn circuit -/
structure Drn (n : Int) (N : List Nm) (V : List Dev) : Prop where
  ok : CirOk n N V
  n : n ≤ 14
  nl : N.length ≤ 14
  vl : V.length ≤ 12
  z : ∀ q ∈ N, q.2 ≠ zz
section
variable {n : Int} {N : List Nm} {V V0 : List Dev} {v : Dev}
theorem Drn.a (h : Drn n N V) : CirOk (n + 1) N V := h.ok.up (by have := h.n; omega)
theorem Drn.b (h : Drn n N V) : CirOk (n + 1) (N ++ [(n, zz)]) V := h.ok.more (by have := h.n; omega) (by have := h.nl; omega) zz_ok h.z
theorem Drn.c (h : Drn n N V) (e : V = V0 ++ [v]) : CirOk n N V0 := h.ok.devs (by have := h.vl; rw [e, List.length_append] at this; omega) fun w hw => h.ok.dv w (by rw [e]; simp [hw])
theorem Drn.d (h : Drn n N V) (e : V = V0 ++ [v]) : CirOk n N (V ++ [v]) := h.ok.devs (by have := h.vl; rw [List.length_append]; simp only [List.length_cons, List.length_nil]; omega) fun w hw => by
  rcases List.mem_append.mp hw with hw | hw
  · exact h.ok.dv w hw
  · rw [List.mem_singleton] at hw; subst hw; exact h.ok.dv w (by rw [e]; simp)
theorem Drn.e (h : Drn n N V) (e : V = V0 ++ [v]) : CirOk n N (V0 ++ [wid v]) := h.ok.devs (by have := h.vl; rw [e] at this; rw [List.length_append] at this ⊢; exact Nat.le_trans this (by omega)) fun w hw => by
  rcases List.mem_append.mp hw with hw | hw
  · exact h.ok.dv w (by rw [e]; simp [hw])
  · rw [List.mem_singleton] at hw; subst hw; exact wid_ok (h.ok.dv v (by rw [e]; simp))
theorem Drn.f (h : Drn n N V) : CirOk n N V.reverse := h.ok.devs (by rw [List.length_reverse]; have := h.vl; omega) fun w hw => h.ok.dv w (List.mem_reverse.mp hw)
theorem Drn.g (h : Drn n N V) : CirOk n (N.drop 1) V := h.ok.names (List.drop_sublist 1 N)
theorem Drn.r (h : Drn n N V) : CirOk n N.reverse V := h.ok.perm N.reverse_perm
end
end DL
namespace DL
open PySem PySem.Spec PyProof.Rows L2
local instance (priority := 2000) keyBEq6 : BEq Key := instBEqOfDecidableEq
theorem cutTk (l : List D) {k : Int} (h : 0 ≤ k) : cutD l none (some k) = l.take k.toNat := by
  unfold cutD
  show (l.drop 0).take (HT.sIx l.length l.length (some k) - 0) = _
  have e : HT.sIx l.length l.length (some k) = min k.toNat l.length := by
    unfold HT.sIx; simp only; split <;> omega
  rw [e, List.drop_zero, Nat.sub_zero]
  by_cases hk : k.toNat ≤ l.length
  · rw [Nat.min_eq_left hk]
  · rw [Nat.min_eq_right (by omega), List.take_of_length_le (Nat.le_refl _), List.take_of_length_le (by omega)]
end DL
namespace DL
open PySem PySem.Spec PyProof.Rows L2
abbrev PW := List (List Key × Int)
end DL
namespace DL
open PySem PySem.Spec PyProof.Rows L2
/-- a heap without some places -/
def ers (H : Hp) (as : List Addr) : Hp := fun b => if b ∈ as then none else H b
theorem ers_in {H : Hp} {as : List Addr} {b : Addr} (h : b ∈ as) : ers H as b = none := if_pos h
theorem ers_out {H : Hp} {as : List Addr} {b : Addr} (h : b ∉ as) : ers H as b = H b := if_neg h
theorem ers_sub {H : Hp} {as : List Addr} : Same (ers H as) H := fun b u e => by
  by_cases h : b ∈ as
  · rw [ers_in h] at e; cases e
  · rwa [ers_out h] at e
abbrev Cs := List (Addr × OC)
abbrev pl (cs : Cs) : List Addr := cs.map (·.1)
section
variable {K : PySem.W.Frag} {B0 B H0 H H0' H' : Hp} {σ : L2.St} {ρ : En}
/-- what a slot owns, in another order -/
theorem J.perm (j : J K B0 B σ H0 H ρ) {i : Nat} {cs cs' : Cs} {d : D} (h : ρ[i]? = some (.ox cs d)) (p : cs.Perm cs') : J K B0 B σ H0 H (ρ.set i (.ox cs' d)) := by
  obtain ⟨ov, e1, f1, f2, f3⟩ := j.get h
  exact j.setSl (s := .ox cs' d) e1 ⟨f1, fun q hq => f2 q (p.mem_iff.mpr hq), (p.map _).nodup_iff.mp f3⟩ (j.sub h e1 fun a w => by
    have w' : a ∈ cs'.map (·.1) := w
    exact (p.map (·.1)).mem_iff.mpr w')
/-- what was lent comes back -/
theorem J.back (j : J K B0 B σ H0 H ρ) {i : Nat} {cs cs2 cs' : Cs} {d : D} (h : ρ[i]? = some (.ox (cs ++ cs2) d)) (g : JH H0 (ers H (pl cs)) H0' H') (hc : ∀ p ∈ cs', CellR K (ers H (pl cs)) H0' H' p.1 p.2) (nd : (pl cs').Nodup) :
    J K B0 B σ H0' H' (ρ.set i (.ox (cs' ++ cs2) d)) := by
  obtain ⟨ov, e1, ⟨v, rfl, rv⟩, f2, f3⟩ := j.get h
  have f3' := f3
  rw [List.map_append, List.nodup_append] at f3'
  obtain ⟨n1, n2, n3⟩ := f3'
  have Bn : ∀ a, a ∈ pl cs → B a = none := fun a ha => by
    obtain ⟨p, hp, rfl⟩ := List.mem_map.mp ha
    obtain ⟨o, _, _, q, _⟩ := (f2 p (List.mem_append_left _ hp)).ex
    exact q
  have sB : Same B (ers H (pl cs)) := fun b u e => by
    rw [ers_out fun hb => by rw [Bn b hb] at e; cases e]
    exact j.hp.sB b u e
  have eN : ∀ a, ers H (pl cs) a = none → B a = none := fun a ha => by
    cases hB : B a with
    | none => rfl
    | some u => rw [sB a u hB] at ha; cases ha
  have cell : ∀ {a : Addr} {c : OC}, a ∉ pl cs → CellR K B H0 H a c → CellR K B H0' H' a c := fun {a c} na ⟨o, q1, q2, q3, q4⟩ => by
    have q5 : ers H (pl cs) a = some o := by rw [ers_out na]; exact q1
    exact ⟨o, g.sB a o q5, g.fr a o q5 q4.nt q2, q3, q4.mono g.s0⟩
  have hl : i < ρ.length := (List.getElem?_eq_some_iff.mp h).1
  have oth : ∀ {k : Nat} {s : Sl} {ok : Option V} {a : Addr}, k ≠ i → ρ[k]? = some s → σ[k]? = some ok → Owns s ok a → a ∉ pl cs := fun {k s ok a} nk h1 h2 w hm =>
    nk (j.dis k i s _ ok _ a h1 h h2 e1 w (by show a ∈ (cs ++ cs2).map (·.1); rw [List.map_append]; exact List.mem_append_left _ hm))
  refine ⟨⟨j.hp.s0.trans g.s0, g.sh, sB.trans g.sB, fun a o ha nt hb => g.fr a o (sB a o ha) nt (j.hp.fr a o ha nt hb)⟩, by simp [j.len], fun k s1 ov1 g1 g2 => ?_, fun k l s1 s2 o1 o2 b g1 g2 g3 g4 w1 w2 => ?_⟩
  · rcases set_get g1 with ⟨rfl, rfl, _⟩ | ⟨nk, g1⟩
    · rw [e1] at g2; cases g2
      refine ⟨⟨v, rfl, DR.mono g.s0 _ _ rv⟩, fun p hp => ?_, ?_⟩
      · rcases List.mem_append.mp hp with hp | hp
        · obtain ⟨o, q1, q2, q3, q4⟩ := (hc p hp).ex
          exact ⟨o, q1, q2, eN _ q3, q4⟩
        · exact cell (fun hm => n3 p.1 hm p.1 (List.mem_map.mpr ⟨p, hp, rfl⟩) rfl) (f2 p (List.mem_append_right _ hp))
      · rw [List.map_append, List.nodup_append]
        refine ⟨nd, n2, fun x hx y hy => ?_⟩
        rintro rfl
        obtain ⟨p, hp, rfl⟩ := List.mem_map.mp hx
        obtain ⟨q, hq, e⟩ := List.mem_map.mp hy
        obtain ⟨o, q1, q2, q3, q4⟩ := (hc p hp).ex
        obtain ⟨o', q1', _⟩ := (f2 q (List.mem_append_right _ hq)).ex
        rw [ers_out (fun hm => n3 p.1 hm p.1 hy rfl), ← e, q1'] at q3
        cases q3
    · have q := j.sl k s1 ov1 g1 g2
      have nb : ∀ b, Owns s1 ov1 b → b ∉ pl cs := fun b w => oth nk g1 g2 w
      cases s1 with
      | no => trivial
      | sh d => obtain ⟨v, q1, q2⟩ := q; exact ⟨v, q1, DR.mono g.s0 _ _ q2⟩
      | ow c =>
        obtain ⟨b, ob, q1, q2⟩ := q
        obtain ⟨o, r1, r2, r3, r4⟩ := cell (nb b q1) ⟨ob, q2⟩
        exact ⟨b, o, q1, r1, r2, r3, r4⟩
      | ox cs3 d3 =>
        obtain ⟨⟨v, q1, q2⟩, q3, q4⟩ := q
        exact ⟨⟨v, q1, DR.mono g.s0 _ _ q2⟩, fun p hp => cell (nb p.1 (List.mem_map.mpr ⟨p, hp, rfl⟩)) (q3 p hp), q4⟩
  · have new : ∀ {k : Nat} {s : Sl} {ok : Option V}, k ≠ i → ρ[k]? = some s → σ[k]? = some ok → Owns s ok b → b ∉ (cs' ++ cs2).map (·.1) := fun {k s ok} nk h1 h2 w hm => by
      obtain ⟨o, q1, _⟩ := j.own h1 h2 w
      have nb := oth nk h1 h2 w
      rw [List.map_append, List.mem_append] at hm
      rcases hm with hm | hm
      · obtain ⟨p, hp, rfl⟩ := List.mem_map.mp hm
        obtain ⟨_, _, _, q3, _⟩ := (hc p hp).ex
        rw [ers_out nb, q1] at q3; cases q3
      · exact nk (j.dis k i s _ ok _ b h1 h h2 e1 w (by show b ∈ (cs ++ cs2).map (·.1); rw [List.map_append]; exact List.mem_append_right _ hm))
    rcases set_get g1 with ⟨ek, es1, _⟩ | ⟨nk, g1'⟩
    · rcases set_get g2 with ⟨el, es2, _⟩ | ⟨nl, g2'⟩
      · rw [ek, el]
      · subst es1; exact absurd w1 (new nl g2' g4 w2)
    · rcases set_get g2 with ⟨el, es2, _⟩ | ⟨nl, g2'⟩
      · subst es2; exact absurd w2 (new nk g1' g3 w1)
      · exact j.dis k l s1 s2 o1 o2 b g1' g2' g3 g4 w1 w2
/-- what may be lent -/
theorem J.lent (j : J K B0 B σ H0 H ρ) {i : Nat} {cs cs2 : Cs} {d : D} (h : ρ[i]? = some (.ox (cs ++ cs2) d)) : (∀ p ∈ cs, CellR K (ers H (pl cs)) H0 H p.1 p.2) ∧ (pl cs).Nodup := by
  obtain ⟨ov, e1, ⟨v, rfl, rv⟩, f2, f3⟩ := j.get h
  rw [List.map_append, List.nodup_append] at f3
  refine ⟨fun p hp => ?_, f3.1⟩
  obtain ⟨o, q1, q2, q3, q4⟩ := (f2 p (List.mem_append_left _ hp)).ex
  exact ⟨o, q1, q2, ers_in (List.mem_map.mpr ⟨p, hp, rfl⟩), q4⟩
end
def EP (X : Cx) (ρ : En) (e : Expr) (Ψ : D → En → Prop) : Prop := ∀ B0 B σ H0 H (Q : VK), J X.K B0 B σ H0 H ρ → (∀ d ρ' v H0' H', Ψ d ρ' → Same H0 H0' → J X.K B0 B σ H0' H' ρ' → DR X.K H0' d v → Q v H') → RE X e σ H Q
/-- a new thing of its own, with cells -/
def EC (X : Cx) (ρ : En) (e : Expr) (Ψ : Addr → Cs → Prop) : Prop := ∀ B0 B σ H0 H (Q : VK), J X.K B0 B σ H0 H ρ → (∀ a cs H0' H', Ψ a cs → JH H0 H H0' H' → (∀ p ∈ cs, CellR X.K H H0' H' p.1 p.2) → (pl cs).Nodup → Q (.ref a) H') → RE X e σ H Q
section
variable {X : Cx} {ρ : En} {e : Expr} {pos : Pos} {d : D} {Φ : Out → Prop} {Ψ : D → En → Prop}
theorem ep_mono {Ψ' : D → En → Prop} (h : EP X ρ e Ψ) (q : ∀ d ρ', Ψ d ρ' → Ψ' d ρ') : EP X ρ e Ψ' := fun B0 B σ H0 H Q j k => h B0 B σ H0 H Q j fun d ρ' v H0' H' w => k d ρ' v H0' H' (q d ρ' w)
theorem ws_setP (i : Nat) {x : Str} {pos' : Pos} (hN : X.N.Nodup) (he : EP X ρ e Ψ) (hΦ : ∀ d ρ', Ψ d ρ' → Φ (.nx (ρ'.set i (.sh d)))) (hi : X.N[i]? = some x := by rfl) (hx : Loc X.env.scope x := by first | exact Or.inl rfl | exact Or.inr rfl)
    (hs : swapsWith e (some (.Name x pos')) pos.line X.env = pure false := by rfl) (hf : X.fn x = true ∨ X.env.scope.names.lookup x = some .local := by first | exact .inl rfl | exact .inr rfl) : WS X (.Assign [.Name x pos'] e pos) ρ Φ := fun B0 B σ H0 H Dn j k =>
  ⟨_, ps_set hN hi hx pe_star hs hf, he B0 B σ H0 H _ j fun d ρ' v H0' H' w s1 j1 r => k _ (hΦ d ρ' w) _ H0' H' (j1.setSh r)⟩
theorem ws_unpackP {tg : Expr} (he : EP X ρ e Ψ) (hg : ∀ d ρ', Ψ d ρ' → ∃ (is : List Nat) (ρ2 : En), DG X is tg d ρ' ρ2 ∧ Φ (.nx ρ2)) (hs : swapsWithSole [tg] e pos.line X.env = pure false := by rfl) (hw : swappedStores [tg] e X.env = pure none := by rfl)
    (h1 : (assignEach [tg] X.env).map (·.2) = [assign tg X.env] := by rfl) : WS X (.Assign [tg] e pos) ρ Φ := fun B0 B σ H0 H Dn j k =>
  ⟨_, ps_asg pe_star pg_star hs hw h1, he B0 B σ H0 H _ j fun d ρ' v H0' H' w s1 j1 r => by
    obtain ⟨is, ρ2, hg', hΦ⟩ := hg d ρ' w
    exact hg' B0 B σ H0' H' v _ j1 r fun σ' j' _ => k _ hΦ σ' H0' H' j'⟩
/-- return e, with what slot 0 owns -/
theorem ws_retC (i : Nat) {cs : Cs} {d0 : D} (h : ED X ρ e d) (hi : ρ[i]? = some (.ox cs d0)) (hΦ : Φ (.rc d cs)) : WS X (.Return (some e) pos) ρ Φ := fun B0 B σ H0 H Dn j k =>
  ⟨_, ps_ret pe_star, h B0 B σ H0 H _ j fun v H0' H' g r => by
    obtain ⟨ov, e1, _, f2, f3⟩ := (j.grow g).get hi
    exact k _ hΦ v H0' H' (j.hp.trans g) f2 f3 r⟩
theorem ws_retCP (i : Nat) (h : EP X ρ e Ψ) (hΦ : ∀ d ρ', Ψ d ρ' → ∃ cs d0, ρ'[i]? = some (.ox cs d0) ∧ Φ (.rc d cs)) : WS X (.Return (some e) pos) ρ Φ := fun B0 B σ H0 H Dn j k =>
  ⟨_, ps_ret pe_star, h B0 B σ H0 H _ j fun d ρ' v H0' H' w s1 j1 r => by
    obtain ⟨cs, d0, hi, hΦ⟩ := hΦ d ρ' w
    obtain ⟨ov, e1, _, f2, f3⟩ := j1.get hi
    exact k _ hΦ v H0' H' j1.hp f2 f3 r⟩
end
/-- R: the place of the first argument, what is lent, the other arguments, what comes back and the result -/
abbrev RLnt := Addr → Cs → List D → (Cs → D → Prop) → Prop
def spL (K : PySem.W.Frag) (R : RLnt) : Sp := fun vs H Q _ => ∃ H0 a cs ds ws Ψ, vs = .ref a :: ws ∧ Same H0 H ∧ (∀ p ∈ cs, CellR K (ers H (pl cs)) H0 H p.1 p.2) ∧ (pl cs).Nodup ∧ DRs K H0 ds ws ∧ R a cs ds Ψ ∧
  ∀ cs' d v H0' H', Ψ cs' d → JH H0 (ers H (pl cs)) H0' H' → (∀ p ∈ cs', CellR K (ers H (pl cs)) H0' H' p.1 p.2) → (pl cs').Nodup → DR K H0' d v → Q v H'
def enL (N : List Str) (cs : Cs) (a : Addr) (ds : List D) : En := .ox cs (.ad a) :: (ds.map Sl.sh ++ List.replicate (N.length - (ds.length + 1)) Sl.no)
section
variable {P : Program} {w : World} {K : PySem.W.Frag} {mg : Str → Option Value} {base : Heap}
theorem j_startL {N : List Str} {B H0 H : Hp} {a : Addr} {cs : Cs} {ds : List D} {vs : List V} (s : Same H0 H) (sB : Same B H) (hc : ∀ p ∈ cs, CellR K B H0 H p.1 p.2) (nd : (pl cs).Nodup) (r : DRs K H0 ds vs) (hl : ds.length + 1 ≤ N.length) : J K H0 B (L2.start N (.ref a :: vs)) H0 H (enL N cs a ds) := by
  have hlen := DRs.length r
  have kind : ∀ (i : Nat) s, (enL N cs a ds)[i]? = some s → i = 0 ∨ s = .no ∨ ∃ d, s = .sh d := fun i s h => by
    cases i with
    | zero => exact .inl rfl
    | succ i =>
      refine .inr ?_
      unfold enL at h
      rw [List.getElem?_cons_succ] at h
      by_cases hi : i < ds.length
      · rw [List.getElem?_append_left (by simpa using hi), List.getElem?_map, show ds[i]? = some ds[i] by simp [hi]] at h
        cases h; exact .inr ⟨_, rfl⟩
      · rw [List.getElem?_append_right (by simp; omega), List.getElem?_replicate] at h
        split at h
        · cases h; exact .inl rfl
        · cases h
  refine ⟨⟨Same.refl _, s, sB, fun b o e _ h => h⟩, by simp [L2.start, enL, hlen], fun i sl ov h1 h2 => ?_, fun i j s1 s2 o1 o2 b h1 h2 _ _ w1 w2 => ?_⟩
  · cases i with
    | zero =>
      unfold enL at h1
      unfold L2.start at h2
      simp only [List.getElem?_cons_zero, Option.some.injEq, List.map_cons, List.cons_append] at h1 h2
      subst h1; subst h2
      exact ⟨⟨_, rfl, rfl⟩, hc, nd⟩
    | succ i =>
      unfold enL at h1
      unfold L2.start at h2
      simp only [List.getElem?_cons_succ, List.map_cons, List.cons_append] at h1 h2
      by_cases hi : i < ds.length
      · rw [List.getElem?_append_left (by simpa using hi), List.getElem?_map] at h1
        rw [List.getElem?_append_left (by simp; omega), List.getElem?_map] at h2
        obtain ⟨v, e1, e2⟩ := DRs.get r (show ds[i]? = some ds[i] by simp [hi])
        rw [show ds[i]? = some ds[i] by simp [hi]] at h1
        rw [e1] at h2
        cases h1; cases h2
        exact ⟨v, rfl, e2⟩
      · rw [List.getElem?_append_right (by simp; omega), List.getElem?_replicate] at h1
        split at h1
        · cases h1; trivial
        · cases h1
  · rcases kind i s1 h1 with e1 | e1
    · rcases kind j s2 h2 with e2 | e2
      · rw [e1, e2]
      · exact absurd w2 (Owns.none e2 b)
    · exact absurd w1 (Owns.none e1 b)
theorem fn_okL {x qual : Str} {st : Stmt} {f : Addr} {fd : FuncData} {N ps : List Str} {k : Nat} {R : RLnt} (F : Fun K x qual st f fd) (S : FnScope N ps (defScope st)) (hR : ∀ a cs ds Ψ, R a cs ds Ψ → ds.length + 1 = ps.length)
    (h : ∀ a cs ds Ψ, R a cs ds Ψ → ∀ (cdv : Value) (A : Around) (outer : List Env) (s : Shared) (H : Hp) (E : XK), Room k (A.deeper (envOfC qual (defScope st) s.heap.objs.size f cdv)) →
      WSs (bx P w K mg base N qual st f cdv A outer s H E) (defBody st) (enL N cs a ds) (fun o => (∃ d cs', o = .rc d cs' ∧ Ψ cs' d) ∨ (∃ ρ cs' d0, o = .nx ρ ∧ ρ[0]? = some (.ox cs' d0) ∧ Ψ cs' .non))) : FnOk P w K mg base CX0 (k + 1) f fd ps (spL K R) := by
  refine F.ok S (fun vs H Q E hs => ?_) fun cdv A outer s H vs Q E hr hs => ?_
  · obtain ⟨H0, a, cs, ds, ws, Ψ, rfl, s0, hc, nd, r, q, _⟩ := hs
    rw [List.length_cons, ← DRs.length r]; exact hR a cs ds Ψ q
  · obtain ⟨H0, a, cs, ds, ws, Ψ, rfl, s0, hc, nd, r, q, kk⟩ := hs
    have hN : ds.length + 1 ≤ N.length := by
      have h1 := hR a cs ds Ψ q
      have h2 := congrArg List.length S.pre
      rw [List.length_take] at h2
      omega
    obtain ⟨t, h1, h2⟩ := h a cs ds Ψ q cdv A outer s H E hr H0 (ers H (pl cs)) (L2.start N (.ref a :: ws)) H0 H (j_startL s0 ers_sub hc nd r hN) (Dn := { nx := fun _ H' => Q .non H', rt := Q }) fun o ho => by
      rcases ho with ⟨d, cs', rfl, w⟩ | ⟨ρ, cs', d0, rfl, hρ, w⟩
      · intro v G0 G g gc gn gd
        exact kk cs' d v G0 G w g gc gn gd
      · intro σ G0 G j
        obtain ⟨ov, e1, _, f2, f3⟩ := j.get hρ
        exact kk cs' .non .non G0 G w j.hp f2 f3 rfl
    exact ⟨t, h1, h2⟩
/-- a method that is lent its instance -/
structure FnML (P : Program) (w : World) (K : PySem.W.Frag) (mg : Str → Option Value) (base : Heap) (cn m : Str) (k : Nat) (R : RLnt) : Prop where
  ex : ∃ C f fd ps, PySem.W.nsIn K mainGlobals cn = some (some (.ref C)) ∧ Cls K C ∧ Meth K C m f ∧ FnOk P w K mg base CX0 k f fd ps (spL K R) ∧ Binds K fd ps []
end
section
variable {X : Cx} {ρ : En} {o e : Expr} {pos apos : Pos} {cn m : Str} {k : Nat} {R : RLnt} {es : List Expr} {ds fds : List D} {ns : List Str} {d0 : D} {pl' : Sem Bool}
/-- o.m(e, ..), o an instance that slot i owns -/
theorem ep_meth (i : Nat) {a : Addr} {cs cs2 : Cs} {Ψ : Cs → D → Prop} (G : FnML X.prog X.w X.K X.mg X.base cn m k R) (hr : Room k X.A) (hi : ρ[i]? = some (.ox (cs ++ cs2) d0)) (hm : (a, OC.ins cn ns fds) ∈ cs) (ho : ED X ρ o (.ad a)) (ha : AD X ρ (e :: es) ds) (hR : R a cs ds Ψ)
    (hnm : ns.contains m = false := by decide +kernel)
    (hst : starEach (e :: es) X.env = (false, eval e X.env) :: starEach es X.env := by rfl) (hpl : (backTo pos (starEach es X.env)).any (·.1) = false := by rfl)
    (ht : eval (.Call (.Attribute o m apos) (e :: es) [] pos) X.env = (do
      let ov ← eval o X.env
      standAt apos.atName
      let (f, first) ← holding [ov] (getMethod ov m pl')
      callWith pos f first (backTo pos (starEach (e :: es) X.env)) (backToKw pos (keywordEach [] X.env))) := by rfl) :
    EP X ρ (.Call (.Attribute o m apos) (e :: es) [] pos) (fun d ρ' => ∃ cs', Ψ cs' d ∧ ρ' = ρ.set i (.ox (cs' ++ cs2) d0)) := fun B0 B σ H0 H Q j kk => by
  obtain ⟨C, f, fd, ps, hC, hc, hmt, F, hb⟩ := G.ex
  refine RE.of (pe_meth (E := E0) pe_star hc hmt F hr hb .nil pass0 pa_star hst hpl ht) (ho B0 B σ H0 H _ j fun v G0 G g r => ?_)
  cases (show v = .ref a from r)
  have j1 := j.grow g
  obtain ⟨u, h1, _, _, vs, C', dx, rfl, hC', hlen, hvs⟩ := j1.cell hi (List.mem_append_left _ hm)
  rw [hC] at hC'; cases hC'
  refine ⟨a, dx, _, rfl, h1, zip_none hnm, ha B0 B σ G0 G _ j1 fun ws L0 L g2 r2 => ?_⟩
  rw [List.append_nil]
  have j2 := j1.grow g2
  obtain ⟨lc, ln⟩ := j2.lent hi
  exact ⟨L0, a, cs, ds, ws, Ψ, rfl, g2.sh, lc, ln, r2, hR, fun cs' d v M0 M w g3 c3 n3 r3 => kk d _ v M0 M ⟨cs', w, rfl⟩ ((g.s0.trans g2.s0).trans g3.s0) (j2.back hi g3 c3 n3) r3⟩
theorem ep_meth0 (i : Nat) {a : Addr} {cs cs2 : Cs} {Ψ : Cs → D → Prop} (G : FnML X.prog X.w X.K X.mg X.base cn m k R) (hr : Room k X.A) (hi : ρ[i]? = some (.ox (cs ++ cs2) d0)) (hm : (a, OC.ins cn ns fds) ∈ cs) (ho : ED X ρ o (.ad a)) (hR : R a cs [] Ψ)
    (hnm : ns.contains m = false := by decide +kernel)
    (ht : eval (.Call (.Attribute o m apos) [] [] pos) X.env = (do
      let ov ← eval o X.env
      standAt apos.atName
      let (f, first) ← holding [ov] (getMethod ov m pl')
      callWith pos f first (backTo pos (starEach [] X.env)) (backToKw pos (keywordEach [] X.env))) := by rfl) :
    EP X ρ (.Call (.Attribute o m apos) [] [] pos) (fun d ρ' => ∃ cs', Ψ cs' d ∧ ρ' = ρ.set i (.ox (cs' ++ cs2) d0)) := fun B0 B σ H0 H Q j kk => by
  obtain ⟨C, f, fd, ps, hC, hc, hmt, F, hb⟩ := G.ex
  refine RE.of (pe_meth0 (E := E0) pe_star hc hmt F hr hb .nil pass0 ht) (ho B0 B σ H0 H _ j fun v G0 G g r => ?_)
  cases (show v = .ref a from r)
  have j1 := j.grow g
  obtain ⟨u, h1, _, _, vs, C', dx, rfl, hC', hlen, hvs⟩ := j1.cell hi (List.mem_append_left _ hm)
  rw [hC] at hC'; cases hC'
  refine ⟨a, dx, _, rfl, h1, zip_none hnm, ?_⟩
  obtain ⟨lc, ln⟩ := j1.lent hi
  exact ⟨G0, a, cs, [], [], Ψ, rfl, g.sh, lc, ln, rfl, hR, fun cs' d v M0 M w g3 c3 n3 r3 => kk d _ v M0 M ⟨cs', w, rfl⟩ (g.s0.trans g3.s0) (j1.back hi g3 c3 n3) r3⟩
/-- .. all of the slot lent -/
theorem ep_methW (i : Nat) {a : Addr} {cs : Cs} {Ψ : Cs → D → Prop} (G : FnML X.prog X.w X.K X.mg X.base cn m k R) (hr : Room k X.A) (hi : ρ[i]? = some (.ox cs d0)) (hm : (a, OC.ins cn ns fds) ∈ cs) (ho : ED X ρ o (.ad a)) (ha : AD X ρ (e :: es) ds) (hR : R a cs ds Ψ)
    (hnm : ns.contains m = false := by decide +kernel)
    (hst : starEach (e :: es) X.env = (false, eval e X.env) :: starEach es X.env := by rfl) (hpl : (backTo pos (starEach es X.env)).any (·.1) = false := by rfl)
    (ht : eval (.Call (.Attribute o m apos) (e :: es) [] pos) X.env = (do
      let ov ← eval o X.env
      standAt apos.atName
      let (f, first) ← holding [ov] (getMethod ov m pl')
      callWith pos f first (backTo pos (starEach (e :: es) X.env)) (backToKw pos (keywordEach [] X.env))) := by rfl) :
    EP X ρ (.Call (.Attribute o m apos) (e :: es) [] pos) (fun d ρ' => ∃ cs', Ψ cs' d ∧ ρ' = ρ.set i (.ox cs' d0)) :=
  ep_mono (ep_meth i (cs := cs) (cs2 := []) (d0 := d0) G hr (by rw [List.append_nil]; exact hi) hm ho ha hR hnm hst hpl ht) fun d ρ' ⟨cs', w, e⟩ => ⟨cs', w, by rw [e, List.append_nil]⟩
theorem ep_meth0W (i : Nat) {a : Addr} {cs : Cs} {Ψ : Cs → D → Prop} (G : FnML X.prog X.w X.K X.mg X.base cn m k R) (hr : Room k X.A) (hi : ρ[i]? = some (.ox cs d0)) (hm : (a, OC.ins cn ns fds) ∈ cs) (ho : ED X ρ o (.ad a)) (hR : R a cs [] Ψ)
    (hnm : ns.contains m = false := by decide +kernel)
    (ht : eval (.Call (.Attribute o m apos) [] [] pos) X.env = (do
      let ov ← eval o X.env
      standAt apos.atName
      let (f, first) ← holding [ov] (getMethod ov m pl')
      callWith pos f first (backTo pos (starEach [] X.env)) (backToKw pos (keywordEach [] X.env))) := by rfl) :
    EP X ρ (.Call (.Attribute o m apos) [] [] pos) (fun d ρ' => ∃ cs', Ψ cs' d ∧ ρ' = ρ.set i (.ox cs' d0)) :=
  ep_mono (ep_meth0 i (cs := cs) (cs2 := []) (d0 := d0) G hr (by rw [List.append_nil]; exact hi) hm ho hR hnm ht) fun d ρ' ⟨cs', w, e⟩ => ⟨cs', w, by rw [e, List.append_nil]⟩
end
abbrev RIL := Addr → List D → (Cs → Prop) → Prop
def spIL (K : PySem.W.Frag) (cn : Str) (R : RIL) : Sp := fun vs H Q _ => ∃ H0 a C dx ds ws Ψ, vs = .ref a :: ws ∧ PySem.W.nsIn K mainGlobals cn = some (some (.ref C)) ∧ Same H0 H ∧ H a = some (.ins C dx []) ∧ H0 a = none ∧ DRs K H0 ds ws ∧ R a ds Ψ ∧
  ∀ cs' H0' H', Ψ cs' → JH H0 (er H a) H0' H' → (∀ p ∈ cs', CellR K (er H a) H0' H' p.1 p.2) → (pl cs').Nodup → Q .non H'
section
variable {P : Program} {w : World} {K : PySem.W.Frag} {mg : Str → Option Value} {base : Heap}
theorem fn_okIL {x qual : Str} {st : Stmt} {f : Addr} {fd : FuncData} {N ps : List Str} {k : Nat} {cn : Str} {R : RIL} (F : Fun K x qual st f fd) (S : FnScope N ps (defScope st)) (hR : ∀ a ds Ψ, R a ds Ψ → ds.length + 1 = ps.length)
    (h : ∀ a ds Ψ, R a ds Ψ → ∀ (cdv : Value) (A : Around) (outer : List Env) (s : Shared) (H : Hp) (E : XK), Room k (A.deeper (envOfC qual (defScope st) s.heap.objs.size f cdv)) →
      WSs (bx P w K mg base N qual st f cdv A outer s H E) (defBody st) (enI N a cn ds) (fun o => ∃ ρ cs' d0, o = .nx ρ ∧ ρ[0]? = some (.ox cs' d0) ∧ Ψ cs')) : FnOk P w K mg base CX0 (k + 1) f fd ps (spIL K cn R) := by
  refine F.ok S (fun vs H Q E hs => ?_) fun cdv A outer s H vs Q E hr hs => ?_
  · obtain ⟨H0, a, C, dx, ds, ws, Ψ, rfl, hC, s0, ha, h0, r, q, _⟩ := hs
    rw [List.length_cons, ← DRs.length r]; exact hR a ds Ψ q
  · obtain ⟨H0, a, C, dx, ds, ws, Ψ, rfl, hC, s0, ha, h0, r, q, kk⟩ := hs
    have hN : ds.length + 1 ≤ N.length := by
      have h1 := hR a ds Ψ q
      have h2 := congrArg List.length S.pre
      rw [List.length_take] at h2
      omega
    obtain ⟨t, h1, h2⟩ := h a ds Ψ q cdv A outer s H E hr H0 (er H a) (L2.start N (.ref a :: ws)) H0 H (j_startI s0 hC ha h0 r hN) (Dn := { nx := fun _ H' => Q .non H', rt := Q }) fun o ho => by
      obtain ⟨ρ, cs', d0, rfl, hρ, w⟩ := ho
      intro σ G0 G j
      obtain ⟨ov, e1, _, f2, f3⟩ := j.get hρ
      exact kk cs' G0 G w j.hp f2 f3
    exact ⟨t, h1, h2⟩
structure FnIL (P : Program) (w : World) (K : PySem.W.Frag) (mg : Str → Option Value) (base : Heap) (cn : Str) (k : Nat) (R : RIL) : Prop where
  ex : ∃ C f fd ps, PySem.W.nsIn K mainGlobals cn = some (some (.ref C)) ∧ mg cn = some (.ref C) ∧ Mk K C f ∧ FnOk P w K mg base CX0 k f fd ps (spIL K cn R) ∧ Binds K fd ps []
end
theorem ec_make {X : Cx} {ρ : En} {e : Expr} {pos : Pos} {cn : Str} {k : Nat} {R : RIL} {es : List Expr} {ds : List D} {Ψ : Addr → Cs → Prop} {p : Pos} (G : FnIL X.prog X.w X.K X.mg X.base cn k R) (hr : Room (k + 1) X.A) (hg : Gl X cn) (ha : AD X ρ (e :: es) ds) (hR : ∀ a, R a ds (Ψ a))
    (hdb : (cn == ("__debug__" : Str)) = false := by decide +kernel) (he : starEach (e :: es) X.env = (false, eval e X.env) :: starEach es X.env := by rfl) (hpl : (backTo pos (starEach es X.env)).any (·.1) = false := by rfl) :
    EC X ρ (.Call (.Name cn p) (e :: es) [] pos) Ψ := fun B0 B σ H0 H Q j kk => by
  obtain ⟨C, f, fd, ps, hC, hm, M, F, hb⟩ := G.ex
  refine RE.of (pe_make (E := E0) M F hr hg hm hb .nil pass0 pa_star hdb he hpl) (ha B0 B σ H0 H _ j fun vs G0 G g r => ?_)
  intro x dx hx hdx hne
  rw [List.append_nil]
  have g0x : G0 x = none := g.sh.free hx
  have g0d : G0 dx = none := g.sh.free hdx
  have s1 : Same G0 (upd (upd G dx (.own x)) x (.ins C dx [])) := fun b u q => by
    rw [upd_ne (ne_of_none q g0x), upd_ne (ne_of_none q g0d)]
    exact g.sh b u q
  have sE : Same G (er (upd (upd G dx (.own x)) x (.ins C dx [])) x) := fun b u q => by
    have n1 := ne_of_none q hx
    rw [er_ne n1, upd_ne n1, upd_ne (ne_of_none q hdx)]
    exact q
  refine ⟨G0, x, C, dx, ds, vs, Ψ x, rfl, hC, s1, upd_same, g0x, r, hR x, fun cs' L0 L w gg hc nd => ⟨rfl, ?_⟩⟩
  refine kk x cs' L0 L w (g.trans ⟨gg.s0, gg.sh, sE.trans gg.sB, fun b u q nt q' => gg.fr b u (sE b u q) nt q'⟩) (fun p hp => ?_) nd
  obtain ⟨o, q1, q2, q3, q4⟩ := (hc p hp).ex
  exact ⟨o, q1, q2, (g.sB.trans sE).free q3, q4⟩
section
variable {X : Cx} {ρ : En} {e : Expr} {pos : Pos} {cn f : Str} {ns fs : List Str} {ds : List D} {d : D}
/-- e.f, e an instance that slot s owns -/
theorem ed_fldC (s i : Nat) {a : Addr} {cs : Cs} {d0 : D} (kl : Kl X.K X.mg cn fs) (hρ : ρ[s]? = some (.ox cs d0)) (hm : (a, OC.ins cn ns ds) ∈ cs) (he : ED X ρ e (.ad a)) (hn : ns[i]? = some f := by rfl) (hd : ds[i]? = some d := by rfl) (hu : (ns.take i).contains f = false := by decide +kernel) (hf : f ∈ fs := by decide +kernel)
    (hb : attributeBase e f X.env (eval e X.env) = eval e X.env := by rfl) : ED X ρ (.Attribute e f pos) d := fun B0 B σ H0 H Q j k => by
  refine RE.of (pe_fld pe_star hb) (he B0 B σ H0 H _ j fun v G0 G g r => ?_)
  cases (show v = .ref a from r)
  obtain ⟨o, h1, h2, h3, vs, C, dx, rfl, hC, hlen, hvs⟩ := (j.grow g).cell hρ hm
  obtain ⟨C', hC', hmc, hc, hk, hna⟩ := kl.ex
  rw [hC] at hC'; cases hC'
  obtain ⟨v, hv', rv⟩ := DRs.get hvs hd
  exact ⟨a, C, dx, _, v, rfl, h1, hc.cl, hna f hf, zip_at hn hu hv', k v G0 G g rv⟩
theorem putC_hd {a : Addr} {c c' : OC} {cs : Cs} (nd : (pl ((a, c) :: cs)).Nodup) : putC ((a, c) :: cs) a c' = (a, c') :: cs := by
  unfold putC
  simp only [List.map_cons, if_pos]
  congr 1
  conv => rhs; rw [← List.map_id cs]
  refine List.map_congr_left fun p hp => ?_
  have : p.1 ≠ a := fun z => (List.nodup_cons.mp nd).1 (z ▸ List.mem_map.mpr ⟨p, hp, rfl⟩)
  rw [if_neg this]; rfl
/-- self.f = e, a new field of shared data -/
theorem ws_setFC (s : Nat) {a : Addr} {x : Str} {p pos' : Pos} {value : Expr} {cs : Cs} {Φ : Out → Prop} (kl : Kl X.K X.mg cn fs) (hρ : ρ[s]? = some (.ox ((a, .ins cn ns ds) :: cs) (.ad a))) (hv : ED X ρ value d) (hΦ : Φ (.nx (ρ.set s (.ox ((a, .ins cn (ns ++ [f]) (ds ++ [d])) :: cs) (.ad a)))))
    (hnew : ns.contains f = false := by decide +kernel) (hf : f ∈ fs := by decide +kernel) (hlt : ns.length < 1000 := by decide)
    (hN : X.N[s]? = some x := by rfl) (hvis : Vis X.env.scope x := by first | exact Or.inl rfl | exact Or.inr (Or.inl rfl) | exact Or.inr (Or.inr rfl)) (hdb : (x == ("__debug__" : Str)) = false := by decide) (hcd : (x == ("__classdict__" : Str)) = false := by decide)
    (hs : swapsWith value (some (.Attribute (.Name x p) f pos')) pos.line X.env = pure false := by rfl) : WS X (.Assign [.Attribute (.Name x p) f pos'] value pos) ρ Φ := fun B0 B σ H0 H Dn j k => by
  refine ⟨_, ps_fld (pe_var hN hvis hdb hcd) pe_star hs, hv B0 B σ H0 H _ j fun v G0 G g r => ?_⟩
  have j1 := j.grow g
  obtain ⟨ov, e1, ⟨v1, rfl, rv⟩, hcs, nd⟩ := j1.get hρ
  cases (show v1 = .ref a from rv)
  obtain ⟨o, h1, h2, h3, vs, C, dx, rfl, hC, hlen, hvs⟩ := (hcs _ (List.mem_cons_self ..)).ex
  obtain ⟨C', hC', hm, hc, hk, hna⟩ := kl.ex
  rw [hC] at hC'; cases hC'
  have hl : (ns.zip vs).length < 1000 := by rw [List.length_zip]; omega
  refine ⟨_, e1, a, C, dx, _, rfl, h1, hc.cl, hna f hf, hl, ?_⟩
  rw [putF_new hnew hlen]
  have j2 := j1.put (c' := .ins cn (ns ++ [f]) (ds ++ [d])) (o := .ins C dx ((ns ++ [f]).zip (vs ++ [v]))) hρ (List.mem_cons_self ..) ⟨vs ++ [v], C, dx, rfl, hC, by simp [hlen], DRs.app hvs (DRs.one r)⟩
  rw [putC_hd nd] at j2
  exact k _ hΦ _ _ _ j2
end
end DL
namespace DL
open PySem PySem.Spec PyProof.Rows L2
/-- data that stands nowhere -/
def fltD : D → Bool
  | .non | .bl _ | .int _ | .str _ | .ad _ | .ty _ => true
  | _ => false
theorem DR.flat {K : PySem.W.Frag} {H H' : Hp} {d : D} {v : V} (f : fltD d = true) (h : DR K H d v) : DR K H' d v := by
  cases d <;> first | exact h | cases f
section
variable {K : PySem.W.Frag} {B0 B H : Hp} {σ : L2.St} {i : Nat} {d : D}
theorem shareAllX : ∀ {cs : Cs} {H0 : Hp} {ρ : En}, J K B0 B σ H0 H ρ → ρ[i]? = some (.ox cs d) → ∃ H0', J K B0 B σ H0' H (ρ.set i (.sh d)) ∧ Same H0 H0' ∧ (∀ p ∈ cs, DR K H0' p.2.d (.ref p.1)) ∧ (∀ b, b ∉ pl cs → H0' b = H0 b) ∧ ∀ b ∈ pl cs, H0 b = none
  | [], H0, ρ, j, h => by
    obtain ⟨ov, e1, h1, h2, h3⟩ := j.get h
    exact ⟨H0, j.setSl (s := .sh d) e1 h1 (fun a w => w.elim), Same.refl _, fun p hp => by simp at hp, fun _ _ => rfl, fun b hb => by simp at hb⟩
  | (a, c) :: cs, H0, ρ, j, h => by
    obtain ⟨ov, e1, ⟨v, h1, h1'⟩, h2, h3⟩ := j.get h
    obtain ⟨o, f1, f2, f3, f4⟩ := j.cell h (List.mem_cons_self ..)
    have nd := List.nodup_cons.mp h3
    have s0 : Same H0 (upd H0 a o) := fun b u e => upd_keep e (fun z => by subst z; rw [f2] at e; cases e)
    obtain ⟨j1, s1⟩ := j.shareAt (s' := .ox cs d) (c := c) h e1 (List.mem_cons_self ..) f1 f4 (fun b w => ⟨List.mem_cons_of_mem _ w, fun z => nd.1 (z ▸ w)⟩) fun r => ⟨⟨v, h1, DR.mono s0 _ _ h1'⟩, fun p hp => by
      obtain ⟨ob, g2, g3, g4, g5⟩ := (h2 p (List.mem_cons_of_mem _ hp)).ex
      exact ⟨ob, g2, by rw [upd_ne (fun z => nd.1 (by rw [← z]; exact List.mem_map.mpr ⟨p, hp, rfl⟩))]; exact g3, g4, g5.mono s0⟩, nd.2⟩
    obtain ⟨H1, j3, s3, r3, n3, z3⟩ := shareAllX (cs := cs) j1 (by rw [List.getElem?_set_self (List.getElem?_eq_some_iff.mp h).1])
    rw [List.set_set] at j3
    refine ⟨H1, j3, s1.trans s3, fun p hp => ?_, fun b hb => ?_, fun b hb => ?_⟩
    · rcases List.mem_cons.mp hp with rfl | hp
      · exact DR.mono s3 _ _ (OCR.dr f2 f4)
      · exact r3 p hp
    · have hb' : b ≠ a ∧ b ∉ pl cs := by simpa [pl] using hb
      rw [n3 b hb'.2, upd_ne hb'.1]
    · have hb' : b = a ∨ b ∈ pl cs := by simpa [pl] using hb
      rcases hb' with rfl | hb'
      · exact f2
      · have q := z3 b hb'
        by_cases e : b = a
        · subst e; exact f2
        · rwa [upd_ne e] at q
/-- what was shown is a slot's own again -/
theorem JH.unshow {H0 H1 H G0 G : Hp} {as : List Addr} (s : Same H0 H1) (n : ∀ b, b ∉ as → H1 b = H0 b) (z : ∀ b ∈ as, H0 b = none) (g : JH H1 H G0 G) : JH H0 H (ers G0 as) G :=
  ⟨fun b u e => by rw [ers_out fun hb => by rw [z b hb] at e; cases e]; exact g.s0 b u (s b u e), ers_sub.trans g.sh, g.sB, fun a o h nt e => by
    by_cases ha : a ∈ as
    · exact ers_in ha
    · rw [ers_out ha]; exact g.fr a o h nt (by rw [n a ha]; exact e)⟩
end
section
variable {X : Cx} {ρ : En} {e : Expr} {d d' d0 : D} {cs : Cs}
/-- the cells of slot i are shown while e is asked, which gives what stands nowhere -/
theorem ed_show (i : Nat) (d' : D) (hi : ρ[i]? = some (.ox cs d0)) (hd : ∀ (K : PySem.W.Frag) (H : Hp) v, (∀ p ∈ cs, DR K H p.2.d (.ref p.1)) → DR K H d0 v → DR K H d' v) (h : ED X (ρ.set i (.sh d')) e d) (hf : fltD d = true := by rfl) : ED X ρ e d := fun B0 B σ H0 H Q j kk => by
  obtain ⟨H1, j1, s1, r1, n1, z1⟩ := shareAllX j hi
  have hl : i < σ.length := by rw [j.len]; exact (List.getElem?_eq_some_iff.mp hi).1
  obtain ⟨ov, e1, v, e2, r2⟩ := j1.get (i := i) (s := .sh d0) (by rw [List.getElem?_set_self (by rw [← j.len]; exact hl)])
  have j2 := j1.setSl (i := i) (s := .sh d') e1 ⟨v, e2, hd _ _ v r1 r2⟩ fun a w => w.elim
  rw [List.set_set] at j2
  exact h B0 B σ H1 H Q j2 fun v G0 G g r => kk v (ers G0 (pl cs)) G (g.unshow s1 n1 z1) (DR.flat hf r)
theorem td_show (i : Nat) (d' : D) {k : Bool} (hi : ρ[i]? = some (.ox cs d0)) (hd : ∀ (K : PySem.W.Frag) (H : Hp) v, (∀ p ∈ cs, DR K H p.2.d (.ref p.1)) → DR K H d0 v → DR K H d' v) (h : TD X (ρ.set i (.sh d')) e k) : TD X ρ e k := fun B0 B σ H0 H Q j kk => by
  obtain ⟨H1, j1, s1, r1, n1, z1⟩ := shareAllX j hi
  have hl : i < σ.length := by rw [j.len]; exact (List.getElem?_eq_some_iff.mp hi).1
  obtain ⟨ov, e1, v, e2, r2⟩ := j1.get (i := i) (s := .sh d0) (by rw [List.getElem?_set_self (by rw [← j.len]; exact hl)])
  have j2 := j1.setSl (i := i) (s := .sh d') e1 ⟨v, e2, hd _ _ v r1 r2⟩ fun a w => w.elim
  rw [List.set_set] at j2
  exact h B0 B σ H1 H Q j2 fun G0 G g => kk (ers G0 (pl cs)) G (g.unshow s1 n1 z1)
end
end DL
namespace DL
open PySem PySem.Spec PyProof.Rows L2
section
variable {X : Cx} {ρ : En} {pos : Pos}
open PySem.AutoSeq1 (wpAny_loadPart')
def sumL (zs : List Str) : Nat := (zs.map (·.length)).sum
theorem app_len (a b : Str) : (a ++ b).length = a.length + b.length := Array.size_append
variable {e o : Expr} {es : List Expr} {zs : List Str} {z : Str}
theorem sumL_cons (z : Str) (zs : List Str) : sumL (z :: zs) = z.length + sumL zs := by simp [sumL]
/-- o.join(e) -/
theorem ed_join {a : Str} {ds : D} {apos : Pos} (ho : ED X ρ o (.str a)) (hs : SeqD ds (zs.map .str)) (he : ED X ρ e ds) (hl : sumL zs + zs.length * a.length ≤ 16777216) (h1 : starEach [e] X.env = [(false, eval e X.env)] := by rfl) (hbase : attributeBase o "join" X.env (eval o X.env) = eval o X.env := by rfl) (hline : (apos.endLine == pos.line) = true := by rfl) :
    ED X ρ (.Call (.Attribute o "join" apos) [e] [] pos) (.str (Str.join a zs)) := fun B0 B σ H0 H Q j k => by
  refine RE.of (pe_join pe_star pe_star h1 hbase hline) (ho B0 B σ H0 H _ j fun v G0 G g r => ?_)
  cases (show v = .str a from r)
  refine ⟨⟨a, rfl⟩, he B0 B σ G0 G _ (j.grow g) fun y L0 L g2 r2 => ?_⟩
  have fin : Q (.str (Txt.join a zs)) L := by
    rw [TL.join_eq]
    exact k _ L0 L (g.trans g2) rfl
  cases hs with
  | lst =>
    obtain ⟨p, vs, rfl, h2, h3⟩ := r2
    rw [DRs.strs h3] at h2
    exact ⟨a, p, zs, rfl, rfl, .inl (g2.sh.seq h2), hl, fin⟩
  | tup =>
    obtain ⟨p, vs, rfl, h2, h3⟩ := r2
    rw [DRs.strs h3] at h2
    exact ⟨a, p, zs, rfl, rfl, .inr (Same.seqT g2.sh h2), hl, fin⟩
end
end DL
namespace DL
open PySem PySem.Spec PyProof.Rows L2
section
variable {X : Cx} {ρ : En} {pos : Pos} {e : Expr}
theorem c2_notInStr {x : Str} {ys : List Str} {d : D} (hd : SeqD d (ys.map D.str)) : C2 X .NotIn (.str x) d (.bl (!decide (x ∈ ys))) := ⟨_, op_notIn_seq, fun H0 H u v Q s r1 r2 k => by
  cases (show u = .str x from r1)
  have hf : (ys.map V.str).all flatV = true := by simp [flatV]
  have hi : inV (.str x) (ys.map V.str) = decide (x ∈ ys) := by
    unfold inV
    rw [Bool.eq_iff_iff]
    simp only [List.any_eq_true, List.mem_map, decide_eq_true_eq]
    constructor
    · rintro ⟨v, ⟨y, hy, rfl⟩, h⟩
      have : y = x := by simpa [eqV] using h
      exact this ▸ hy
    · intro h
      exact ⟨.str x, ⟨x, h, rfl⟩, by simp [eqV]⟩
  have fin : Q (.bl (if true = true then !inV (.str x) (ys.map V.str) else inV (.str x) (ys.map V.str))) H := by
    rw [hi]; exact k _ H0 H (JH.refl s) rfl
  cases hd with
  | lst =>
    obtain ⟨a, vs, rfl, h1, h2⟩ := r2
    rw [DRs.strs h2] at h1
    exact ⟨a, _, rfl, .inl (s.seq h1), rfl, hf, fin⟩
  | tup =>
    obtain ⟨a, vs, rfl, h1, h2⟩ := r2
    rw [DRs.strs h2] at h1
    exact ⟨a, _, rfl, .inr (Same.seqT s h1), rfl, hf, fin⟩⟩
end
end DL
namespace DL
open PySem PySem.Spec PyProof.Rows L2
def opL4 : List Str := ["and", "or", "minus", "odd"]
def opL3 : List Str := ["grow", "shrink", "open"]
def opP (o : Fin 4) : Str := opL4.getD o.1 ""
def opS (o : Fin 3) : Str := opL3.getD o.1 ""
inductive Ex where
  | lay (n : Str)
  | two (o : Fin 4) (l r : Ex)
  | siz (o : Fin 3) (n : Int) (x : Ex)
deriving DecidableEq
def Ex.e : Ex → D
  | .lay n => .tup [.str "layer", .str n]
  | .two o l r => .tup [.str (opP o), l.e, r.e]
  | .siz o n x => .tup [.str (opS o), .int n, x.e]
def Ex.parts : Ex → List Ex
  | .lay _ => []
  | .two _ l r => [l, r]
  | .siz _ _ x => [x]
theorem parts_len (x : Ex) : x.parts.length ≤ 2 := by cases x <;> simp [Ex.parts]
def szE (op : Str) (n : Int) : Bool := decide ((if op = "open" then (1 : Int) else 0) ≤ n) && decide (n ≤ 1000)
def okE (L : List Str) : Nat → Ex → Bool
  | 0, _ => false
  | _ + 1, .lay n => decide (n ∈ L)
  | d + 1, .two _ l r => okE L d l && okE L d r
  | d + 1, .siz o n x => szE (opS o) n && okE L d x
def Ex.dep : Ex → Nat
  | .lay _ => 1
  | .two _ l r => max l.dep r.dep + 1
  | .siz _ _ x => x.dep + 1
theorem opP_in (o : Fin 4) : decide (opP o ∈ opL4) = true := by revert o; decide +kernel
theorem opS_notP (o : Fin 3) : decide (opS o ∈ opL4) = false := by revert o; decide +kernel
theorem opS_in (o : Fin 3) : decide (opS o ∈ opL3) = true := by revert o; decide +kernel
theorem opP_notS (o : Fin 4) : decide (opP o ∈ opL3) = false := by revert o; decide +kernel
theorem lay_notP : decide (("layer" : Str) ∈ opL4) = false := by decide +kernel
theorem lay_notS : decide (("layer" : Str) ∈ opL3) = false := by decide +kernel
theorem opP_lay (o : Fin 4) : decide (opP o = "layer") = false := by revert o; decide +kernel
theorem opS_lay (o : Fin 3) : decide (opS o = "layer") = false := by revert o; decide +kernel
theorem okE_no {L : List Str} {x : Ex} {d : Int} (h : d < 1) : okE L d.toNat x = false := by
  rw [show d.toNat = 0 by omega]; rfl
theorem okE_s {L : List Str} {x : Ex} {d : Int} (h : ¬ d < 1) : okE L d.toNat x = okE L ((d - 1).toNat + 1) x := by
  rw [show d.toNat = (d - 1).toNat + 1 by omega]
/-- drawn expressions -/
def sizI (m : Nat) : Fin 3 := if m = 1 then 1 else if m = 2 then 2 else 0
def qxN (q : Int) : Int := if sizI (q / 7 % 4).toNat = 2 then max 1 (q / 28 % 4) else q / 28 % 4
def qEx (f : Int → Int) (N : List Str) : Nat → Int → Int → Ex
  | 0, a, _ => .lay (N.getD (f (a % 90) / 7 % (N.length : Int)).toNat "")
  | k + 1, a, d => if d < 2 ∨ f (a % 90) % 7 = 6 then .lay (N.getD (f (a % 90) / 7 % (N.length : Int)).toNat "")
    else if f (a % 90) % 7 < 4 then .two (Fin.ofNat 4 (f (a % 90) % 7).toNat) (qEx f N k (3 * a + 1) (d - 1)) (qEx f N k (3 * a + 2) (d - 1 - f (a % 90) / 7 % 2))
    else .siz (sizI (f (a % 90) / 7 % 4).toNat) (qxN (f (a % 90))) (qEx f N k (3 * a + 3) (d - 1))
theorem qEx_lay {f : Int → Int} {N : List Str} {a d : Int} (k : Nat) (h : d < 2 ∨ f (a % 90) % 7 = 6) : qEx f N k a d = .lay (N.getD (f (a % 90) / 7 % (N.length : Int)).toNat "") := by
  cases k with
  | zero => rfl
  | succ k => unfold qEx; rw [if_pos h]
theorem qEx_two {f : Int → Int} {N : List Str} {a d : Int} {k : Nat} (h : ¬ (d < 2 ∨ f (a % 90) % 7 = 6)) (h2 : f (a % 90) % 7 < 4) : qEx f N (k + 1) a d = .two (Fin.ofNat 4 (f (a % 90) % 7).toNat) (qEx f N k (3 * a + 1) (d - 1)) (qEx f N k (3 * a + 2) (d - 1 - f (a % 90) / 7 % 2)) := by
  rw [qEx, if_neg h, if_pos h2]
theorem qEx_siz {f : Int → Int} {N : List Str} {a d : Int} {k : Nat} (h : ¬ (d < 2 ∨ f (a % 90) % 7 = 6)) (h2 : ¬ f (a % 90) % 7 < 4) : qEx f N (k + 1) a d = .siz (sizI (f (a % 90) / 7 % 4).toNat) (qxN (f (a % 90))) (qEx f N k (3 * a + 3) (d - 1)) := by
  rw [qEx, if_neg h, if_neg h2]
theorem opP_get {i : Int} (h : 0 ≤ i ∧ i < 4) : opL4.getD i.toNat "" = opP (Fin.ofNat 4 i.toNat) := by
  obtain ⟨n, rfl⟩ := Int.eq_ofNat_of_zero_le h.1
  have hn : n < 4 := by omega
  have : ∀ m : Fin 4, opL4.getD m.1 "" = opP (Fin.ofNat 4 m.1) := by decide +kernel
  exact this ⟨n, hn⟩
def opG4 : List Str := ["grow", "shrink", "open", "grow"]
theorem opS_get {i : Int} (h : 0 ≤ i ∧ i < 4) : opG4.getD i.toNat "" = opS (sizI i.toNat) := by
  obtain ⟨n, rfl⟩ := Int.eq_ofNat_of_zero_le h.1
  have hn : n < 4 := by omega
  have : ∀ m : Fin 4, opG4.getD m.1 "" = opS (sizI m.1) := by decide +kernel
  exact this ⟨n, hn⟩
theorem opS_open (o : Fin 3) : decide (opS o = "open") = decide (o = 2) := by revert o; decide +kernel
/-- what is drawn is right -/
theorem szB_q {q : Int} : szE (opS (sizI (q / 7 % 4).toNat)) (qxN q) = true := by
  have h := opS_open (sizI (q / 7 % 4).toNat)
  rw [decide_eq_decide] at h
  unfold szE qxN
  rw [Bool.and_eq_true, decide_eq_true_iff, decide_eq_true_iff]
  by_cases e : sizI (q / 7 % 4).toNat = 2
  · rw [if_pos (h.mpr e), if_pos e]; omega
  · rw [if_neg (fun z => e (h.mp z)), if_neg e]; omega
theorem qEx_ok {f : Int → Int} {N L : List Str} (hN : N ≠ []) (hL : ∀ n ∈ N, n ∈ L) : ∀ (k : Nat) (a d : Int) {m : Nat}, k + 1 ≤ m → okE L m (qEx f N k a d) = true
  | k, a, d, 0, hm => absurd hm (by omega)
  | k, a, d, m + 1, hm => by
    have hlay : ∀ i : Int, okE L (m + 1) (.lay (N.getD (i % (N.length : Int)).toNat "")) = true := fun i => by
      show decide (_ ∈ L) = true
      have hl : 0 < N.length := List.length_pos_iff.mpr hN
      have h1 := Int.emod_nonneg i (b := (N.length : Int)) (by omega)
      have h2 := Int.emod_lt_of_pos i (b := (N.length : Int)) (by omega)
      refine decide_eq_true (hL _ ?_)
      rw [List.getD_eq_getElem?_getD, List.getElem?_eq_getElem (by omega)]
      exact List.getElem_mem _
    by_cases h : d < 2 ∨ f (a % 90) % 7 = 6
    · rw [qEx_lay k h]; exact hlay _
    · cases k with
      | zero => exact hlay _
      | succ k =>
        by_cases h2 : f (a % 90) % 7 < 4
        · rw [qEx_two h h2]
          show (okE L m _ && okE L m _) = true
          rw [qEx_ok hN hL k _ _ (by omega), qEx_ok hN hL k _ _ (by omega)]; rfl
        · rw [qEx_siz h h2]
          show (szE _ _ && okE L m _) = true
          rw [szB_q, qEx_ok hN hL k _ _ (by omega)]; rfl
theorem ex_md : ∀ (x : Ex) {m : Nat}, x.dep ≤ m → MD m x.e
  | .lay n, 0, h => absurd h (by unfold Ex.dep; omega)
  | .lay n, m + 1, h => md_tup (by simp) (md_cons md_str (md_cons md_str md_nil))
  | .two o l r, 0, h => absurd h (by unfold Ex.dep; omega)
  | .two o l r, m + 1, h => md_tup (by simp) (md_cons md_str (md_cons (ex_md l (by unfold Ex.dep at h; omega)) (md_cons (ex_md r (by unfold Ex.dep at h; omega)) md_nil)))
  | .siz o n x, 0, h => absurd h (by unfold Ex.dep; omega)
  | .siz o n x, m + 1, h => md_tup (by simp) (md_cons md_str (md_cons md_int (md_cons (ex_md x (by unfold Ex.dep at h; omega)) md_nil)))
theorem qEx_dep {f : Int → Int} {N : List Str} : ∀ (k : Nat) (a d : Int), (qEx f N k a d).dep ≤ k + 1
  | 0, a, d => Nat.le_refl _
  | k + 1, a, d => by
    by_cases h : d < 2 ∨ f (a % 90) % 7 = 6
    · rw [qEx_lay _ h]; show 1 ≤ _; omega
    · by_cases h2 : f (a % 90) % 7 < 4
      · rw [qEx_two h h2]
        have h3 := qEx_dep (f := f) (N := N) k (3 * a + 1) (d - 1)
        have h4 := qEx_dep (f := f) (N := N) k (3 * a + 2) (d - 1 - f (a % 90) / 7 % 2)
        show max _ _ + 1 ≤ _; omega
      · rw [qEx_siz h h2]
        have h3 := qEx_dep (f := f) (N := N) k (3 * a + 3) (d - 1)
        show _ + 1 ≤ _; omega
/-- a rule over layers with these names -/
def okRL (L : List Str) (k : Str) (ls : List Str) (ns : List Int) : Bool := (ls.all fun l => decide (l ∈ L)) && (decide (((ddK (ls.map (fun l => (Sum.inr l : Key)))).length : Int) = (ls.length : Int)) && (ns.all fun n => decide (least k ≤ n) && decide (n ≤ 1000)))
def wds9 : List Str := ["and", "or", "minus", "odd", "grow", "shrink", "open", "layer", "rule"]
def newB (L : List Str) (n : Str) : Bool := nameB n && (!decide (n ∈ wds9) && !decide (n ∈ L))
end DL
namespace DL
open PySem PySem.Spec PyProof.Rows L2
theorem pre_all9 : ∀ a : Fin 26, ∀ b : Fin 6, cutS ((⟨#[ltr.cps.toList.getD a.val 0]⟩ : Str) ++ tls.getD b.val "") none (some 8) = cutS ((⟨#[ltr.cps.toList.getD a.val 0]⟩ : Str) ++ tls.getD b.val "") none (some 7) := by decide +kernel
theorem cutE (d : Int) : cutS (nmOf d) none (some 8) = nmPre d := by
  have h1 : (d % 26).toNat < 26 := by omega
  have h2 : (d / 26 % 6).toNat < 6 := by omega
  exact pre_all9 ⟨_, h1⟩ ⟨_, h2⟩
def dStr (d : Int) (n : Nat) : Str := (nmPre d ++ ("d" : Str)) ++ (Str.ofString (toString (n : Int)))
theorem ld1 : ("d" : Str).length = 1 := by decide +kernel
theorem e1_len (d : Int) : (cutS (nmOf d) none (some 8)).length + (Str.ofString "d").length ≤ sizeLine := by
  have := pre_len d
  rw [cutE]
  show (nmPre d).length + ("d" : Str).length ≤ sizeLine
  rw [ld1, sizeLine_eq]; omega
theorem e2_len (d : Int) {n : Nat} (h : n < 64) : (cutS (nmOf d) none (some 8) ++ Str.ofString "d").length + (Str.ofString (toString (n : Int))).length ≤ sizeLine := by
  have := pre_len d
  have h2 := dig_ok h
  rw [cutE]
  show (nmPre d ++ ("d" : Str)).length + _ ≤ sizeLine
  rw [len_app, ld1, sizeLine_eq]; omega
theorem dStr_ok (d : Int) {n : Nat} (h : n < 64) : nameB (dStr d n) = true := by
  have h1 := pre_ok d
  have h2 := dig_ok h
  unfold preOk at h1
  simp only [Bool.and_eq_true, decide_eq_true_eq] at h1
  obtain ⟨⟨l1, l2⟩, f, a⟩ := h1
  have ak : ("d" : Str).cps.toList.all chB = true := by decide +kernel
  unfold nameB dStr
  rw [len_app, len_app, ld1, all_app, all_app, a, ak, cps_app, cps_app]
  have hne : (nmPre d).cps.toList ≠ [] := fun e => by
    have : (nmPre d).cps.toList.length = 0 := by rw [e]; rfl
    rw [Array.length_toList] at this
    have l1' : 1 ≤ (nmPre d).cps.size := l1
    omega
  have hf : ((nmPre d).cps.toList ++ ("d" : Str).cps.toList ++ (Str.ofString (toString (n : Int))).cps.toList).getD 0 0 = (nmPre d).cps.toList.getD 0 0 := by
    cases q : (nmPre d).cps.toList with
    | nil => exact absurd q hne
    | cons c r => rfl
  rw [hf, f]
  have hd : (Str.ofString (toString (n : Int))).cps.toList.all chB = true := List.all_eq_true.mpr fun c hc => chB_of (List.all_eq_true.mp h2.2 c hc)
  rw [hd]
  simp only [Bool.and_true, Bool.and_eq_true, decide_eq_true_eq]
  omega
theorem dig_no {m : Nat} (hm : m < 64) : ∀ c ∈ (Str.ofString (toString (m : Int))).cps.toList, c ≠ 100 := fun c hc => by
  have := List.all_eq_true.mp (dig_ok hm).2 c hc
  unfold digB at this
  simp only [Bool.and_eq_true, decide_eq_true_eq] at this
  omega
theorem dStr_inj {d d' : Int} {n n' : Nat} (h : n < 64) (h' : n' < 64) (e : dStr d n = dStr d' n') : n = n' := by
  have e1 := congrArg (fun z : Str => z.cps.toList) e
  unfold dStr at e1
  simp only [cps_app] at e1
  have ek : ("d" : Str).cps.toList = [100] := by decide +kernel
  rw [ek, List.append_assoc, List.append_assoc] at e1
  have e2 := tail_eq (dig_no h) (dig_no h') e1
  have := dig_inj ⟨n, h⟩ ⟨n', h'⟩ e2
  exact congrArg Fin.val this
/-- a name ends with a figure -/
def endD (x : Str) : Bool := match x.cps.toList.getLast? with
  | some c => digB c
  | none => false
theorem dStr_end (d : Int) {n : Nat} (h : n < 64) : endD (dStr d n) = true := by
  have h2 := dig_ok h
  unfold endD dStr
  rw [cps_app]
  have hne : (Str.ofString (toString (n : Int))).cps.toList ≠ [] := fun e => by
    have : (Str.ofString (toString (n : Int))).cps.toList.length = 0 := by rw [e]; rfl
    rw [Array.length_toList] at this
    have l1' : 1 ≤ (Str.ofString (toString (n : Int))).cps.size := h2.1.1
    omega
  rw [List.getLast?_append, List.getLast?_eq_some_getLast hne]
  exact List.all_eq_true.mp h2.2 _ (List.getLast_mem hne)
theorem end_no {d : Int} {n : Nat} (h : n < 64) {x : Str} (hx : endD x = false) : dStr d n ≠ x := fun e => by
  have := dStr_end d h
  rw [e, hx] at this
  cases this
theorem lays_end : ∀ x ∈ lays, endD x = false := by decide +kernel
theorem wds_end : ∀ x ∈ wds9, endD x = false := by decide +kernel
abbrev Df := Str × Ex
def Df.e (f : Df) : D := .tup [.str f.1, f.2.e]
def qNm9 (c : Int) (k : Nat) : Str := dStr (dr c 90 (k : Int)) k
def qNs (c : Int) (k : Nat) : List Str := lays ++ (List.range k).map (qNm9 c)
theorem qNs_succ (c : Int) (k : Nat) : qNs c (k + 1) = qNs c k ++ [qNm9 c k] := by unfold qNs; rw [List.range_succ, List.map_append, ← List.append_assoc]; rfl
theorem qNs_len (c : Int) (k : Nat) : (qNs c k).length = 7 + k := by unfold qNs; rw [List.length_append, List.length_map, List.length_range]; rfl
abbrev RuX := Str × List Str × List Int
def ruX (r : RuX) : D := .tup (rDs r.1 r.2.1 r.2.2)
def kinD : List Str := ["width", "space", "apart", "cover", "area", "size", "never"]
def qKi (q : Int) : Str := kinD.getD (q % 7).toNat ""
def nAt (N : List Str) (i : Int) : Str := N.getD (i % (N.length : Int)).toNat ""
def qO (N : List Str) (q m : Int) : Int := q / 7 % (N.length : Int) + 1 + m % ((N.length : Int) - 1)
def qRu (N : List Str) (q m : Int) : RuX :=
  if qKi q = "area" then (qKi q, [nAt N (q / 7)], [1 + m / 64 % 40])
  else if qKi q = "size" then (qKi q, [nAt N (q / 7)], [1 + m / 64 % 3, 1 + m / 192 % 4])
  else if qKi q = "never" then (qKi q, [nAt N (q / 7), nAt N (qO N q m)], [])
  else if qKi q = "apart" ∨ qKi q = "cover" then (qKi q, [nAt N (q / 7), nAt N (qO N q m)], [1 + m / 64 % 3 - 1])
  else (qKi q, [nAt N (q / 7)], [1 + m / 64 % 3])
theorem nAt_mem {N : List Str} (h : 0 < N.length) (i : Int) : nAt N i ∈ N := by
  have h1 := Int.emod_nonneg i (b := (N.length : Int)) (by omega)
  have h2 := Int.emod_lt_of_pos i (b := (N.length : Int)) (by omega)
  unfold nAt
  rw [List.getD_eq_getElem?_getD, List.getElem?_eq_getElem (by omega)]
  exact List.getElem_mem _
theorem ne_arith {a c n : Int} (a1 : 0 ≤ a) (a2 : a < n) (c1 : 0 ≤ c) (c2 : c < n - 1) (h : (a + 1 + c) % n = a) : False := by
  rcases Int.lt_or_le (a + 1 + c) n with w | w
  · rw [Int.emod_eq_of_lt (by omega) w] at h; omega
  · have : (a + 1 + c) % n = a + 1 + c - n := by
      rw [← Int.sub_emod_right, Int.emod_eq_of_lt (by omega) (by omega)]
    omega
theorem nAt_ne {N : List Str} (nd : N.Nodup) (h : 2 ≤ N.length) (q m : Int) : nAt N (q / 7) ≠ nAt N (qO N q m) := fun e => by
  have a1 := Int.emod_nonneg (q / 7) (b := (N.length : Int)) (by omega)
  have a2 := Int.emod_lt_of_pos (q / 7) (b := (N.length : Int)) (by omega)
  have b1 := Int.emod_nonneg (qO N q m) (b := (N.length : Int)) (by omega)
  have b2 := Int.emod_lt_of_pos (qO N q m) (b := (N.length : Int)) (by omega)
  have c1 := Int.emod_nonneg m (b := (N.length : Int) - 1) (by omega)
  have c2 := Int.emod_lt_of_pos m (b := (N.length : Int) - 1) (by omega)
  unfold nAt at e
  rw [List.getD_eq_getElem?_getD, List.getElem?_eq_getElem (by omega), List.getD_eq_getElem?_getD, List.getElem?_eq_getElem (by omega)] at e
  have e1 := (List.getElem_inj (h₀ := by omega) (h₁ := by omega) nd).mp e
  have hq : qO N q m = q / 7 % (N.length : Int) + 1 + m % ((N.length : Int) - 1) := rfl
  exact ne_arith a1 a2 c1 c2 (by rw [← hq]; omega)
structure RuG (L : List Str) (r : RuX) : Prop where
  f : Form r.1 r.2.1.length r.2.2.length
  ok : okRL L r.1 r.2.1 r.2.2 = true
theorem okRL_1 {L : List Str} {k l : Str} {n : Int} (hl : l ∈ L) (h1 : 1 ≤ n) (h2 : n ≤ 1000) : okRL L k [l] [n] = true := by
  unfold okRL
  have h3 : least k ≤ n := by unfold least; split <;> omega
  rw [nd_one]; simp [hl, h3, h2]
theorem okRL_s {L : List Str} {l : Str} {n m : Int} (hl : l ∈ L) (h1 : 1 ≤ n ∧ n ≤ 1000) (h2 : 1 ≤ m ∧ m ≤ 1000) : okRL L "size" [l] [n, m] = true := by
  unfold okRL
  rw [nd_one, show least "size" = 1 by decide +kernel]; simp [hl, h1, h2]
theorem okRL_2 {L : List Str} {k a b : Str} {n : Int} (ha : a ∈ L) (hb : b ∈ L) (ne : a ≠ b) (hk : least k ≤ n) (h2 : n ≤ 1000) : okRL L k [a, b] [n] = true := by
  unfold okRL
  rw [nd_two]; simp [ha, hb, ne, hk, h2]
theorem okRL_n {L : List Str} {k a b : Str} (ha : a ∈ L) (hb : b ∈ L) (ne : a ≠ b) : okRL L k [a, b] [] = true := by
  unfold okRL
  rw [nd_two]; simp [ha, hb, ne]
theorem qKi_mem (q : Int) : qKi q ∈ kinD := by
  unfold qKi
  have h1 := Int.emod_nonneg q (b := 7) (by decide)
  have h2 := Int.emod_lt_of_pos q (b := 7) (by decide)
  rw [List.getD_eq_getElem?_getD, List.getElem?_eq_getElem (show (q % 7).toNat < kinD.length by show _ < 7; omega)]
  exact List.getElem_mem _
theorem qRu_ok {N L : List Str} (nd : N.Nodup) (h : 2 ≤ N.length) (hL : ∀ n ∈ N, n ∈ L) (q m : Int) : RuG L (qRu N q m) := by
  have hk := qKi_mem q
  have ha := hL _ (nAt_mem (by omega : 0 < N.length) (q / 7))
  have hb := hL _ (nAt_mem (by omega : 0 < N.length) (qO N q m))
  have ne := nAt_ne nd h q m
  unfold qRu
  generalize qKi q = k at *
  generalize nAt N (q / 7) = a at *
  generalize nAt N (qO N q m) = b at *
  by_cases h1 : k = "area"
  · rw [if_pos h1]; subst h1
    exact ⟨.area, okRL_1 ha (by omega) (by omega)⟩
  rw [if_neg h1]
  by_cases h2 : k = "size"
  · rw [if_pos h2]; subst h2
    exact ⟨.size, okRL_s ha (by omega) (by omega)⟩
  rw [if_neg h2]
  by_cases h3 : k = "never"
  · rw [if_pos h3]; subst h3
    exact ⟨.never, okRL_n ha hb ne⟩
  rw [if_neg h3]
  by_cases h4 : k = "apart" ∨ k = "cover"
  · rw [if_pos h4]
    have hl : least k = 0 := by rcases h4 with rfl | rfl <;> decide +kernel
    refine ⟨?_, okRL_2 ha hb ne (by rw [hl]; omega) (by omega)⟩
    rcases h4 with rfl | rfl
    · exact .apart
    · exact .cover
  rw [if_neg h4]
  refine ⟨?_, okRL_1 ha (by omega) (by omega)⟩
  simp only [kinD, List.mem_cons, List.not_mem_nil, or_false] at hk
  rcases hk with rfl | rfl | rfl | rfl | rfl | rfl | rfl
  · exact .width
  · exact .space
  · exact absurd (.inl rfl) h4
  · exact absurd (.inr rfl) h4
  · exact absurd rfl h1
  · exact absurd rfl h2
  · exact absurd rfl h3
def qRus (N : List Str) (c most : Int) : List RuX := (List.range (dr c (2 * most + 1) (2 * most) % (most + 1)).toNat).map fun (k : Nat) => qRu N (dr c (2 * most + 1) (2 * (k : Int))) (dr c (2 * most + 1) (2 * (k : Int) + 1))
def lyN (F : List Df) : List Str := lays ++ F.map (·.1)
theorem lyN_snoc (F : List Df) (f : Df) : lyN (F ++ [f]) = lyN F ++ [f.1] := by unfold lyN; rw [List.map_append, ← List.append_assoc]; rfl
theorem lyN_len (F : List Df) : (lyN F).length = 7 + F.length := by unfold lyN; rw [List.length_append, List.length_map]; rfl
theorem lyN_take {F : List Df} {i : Nat} {f : Df} (h : F[i]? = some f) : lyN (F.take (i + 1)) = lyN (F.take i) ++ [f.1] := by
  rw [List.take_add_one, h]; exact lyN_snoc _ _
structure DfG (L : List Str) (f : Df) : Prop where
  n : newB L f.1 = true
  e : okE L 12 f.2 = true
def DfAll (F : List Df) (n : Nat) : Prop := ∀ i f, i < n → F[i]? = some f → DfG (lyN (F.take i)) f
structure DkS (F : List Df) (Q : List RuX) : Prop where
  fl : F.length ≤ 60
  ql : Q.length ≤ 60
  nl : ∀ f ∈ F, f.1.length ≤ 1000
  fm : ∀ r ∈ Q, Form r.1 r.2.1.length r.2.2.length
structure DkOk (F : List Df) (Q : List RuX) : Prop where
  s : DkS F Q
  dl : F.length ≤ 40
  rl : Q.length ≤ 40
  df : DfAll F F.length
  ru : ∀ r ∈ Q, okRL (lyN F) r.1 r.2.1 r.2.2 = true
theorem okE_dep {L : List Str} : ∀ {m : Nat} {x : Ex}, okE L m x = true → x.dep ≤ m
  | 0, _, h => by cases h
  | m + 1, .lay _, _ => by show 1 ≤ _; omega
  | m + 1, .two _ l r, h => by
    have h : (okE L m l && okE L m r) = true := h
    rw [Bool.and_eq_true] at h
    have h1 := okE_dep h.1
    have h2 := okE_dep h.2
    show max _ _ + 1 ≤ _; omega
  | m + 1, .siz _ _ x, h => by
    have h : (szE _ _ && okE L m x) = true := h
    rw [Bool.and_eq_true] at h
    have h2 := okE_dep h.2
    show _ + 1 ≤ _; omega
theorem okE_two {L : List Str} {m : Nat} {o : Fin 4} {l r : Ex} : okE L (m + 1) (.two o l r) = (okE L m l && okE L m r) := rfl
theorem okE_siz {L : List Str} {m : Nat} {o : Fin 3} {n : Int} {x : Ex} : okE L (m + 1) (.siz o n x) = (szE (opS o) n && okE L m x) := rfl
theorem opP_inj {o o' : Fin 4} (h : opP o = opP o') : o = o' := by
  have : ∀ a b : Fin 4, opP a = opP b → a = b := by decide +kernel
  exact this _ _ h
theorem opS_inj {o o' : Fin 3} (h : opS o = opS o') : o = o' := by
  have : ∀ a b : Fin 3, opS a = opS b → a = b := by decide +kernel
  exact this _ _ h
theorem e_noint : ∀ {x : Ex} {i : Int}, x.e ≠ .int i
  | .lay _, _, h => by cases h
  | .two _ _ _, _, h => by cases h
  | .siz _ _ _, _, h => by cases h
theorem Ex.inj : ∀ {x y : Ex}, x.e = y.e → x = y
  | .lay n, .lay m, h => by unfold Ex.e at h; simp only [D.tup.injEq, List.cons.injEq, D.str.injEq] at h; rw [h.2.1]
  | .lay n, .two o l r, h => by unfold Ex.e at h; simp at h
  | .lay n, .siz o m x, h => by unfold Ex.e at h; simp at h
  | .two o l r, .lay n, h => by unfold Ex.e at h; simp at h
  | .two o l r, .two o' l' r', h => by
    unfold Ex.e at h
    simp only [D.tup.injEq, List.cons.injEq, D.str.injEq] at h
    rw [opP_inj h.1, Ex.inj h.2.1, Ex.inj h.2.2.1]
  | .two o l r, .siz o' m x, h => by
    unfold Ex.e at h
    simp only [D.tup.injEq, List.cons.injEq, D.str.injEq] at h
    exact absurd h.2.1 e_noint
  | .siz o m x, .lay n, h => by unfold Ex.e at h; simp at h
  | .siz o m x, .two o' l r, h => by
    unfold Ex.e at h
    simp only [D.tup.injEq, List.cons.injEq, D.str.injEq] at h
    exact absurd h.2.1.symm e_noint
  | .siz o m x, .siz o' m' x', h => by
    unfold Ex.e at h
    simp only [D.tup.injEq, List.cons.injEq, D.str.injEq, D.int.injEq] at h
    rw [opS_inj h.1, h.2.1, Ex.inj h.2.2.1]
end DL
namespace DL
open PySem PySem.Spec PyProof.Rows L2
theorem newB_iff {L : List Str} {n : Str} : newB L n = true ↔ nameB n = true ∧ n ∉ wds9 ∧ n ∉ L := by
  unfold newB; simp
theorem qNm_new {c : Int} {i : Nat} (hi : i < 60) : newB (qNs c i) (qNm9 c i) = true := by
  rw [newB_iff]
  refine ⟨dStr_ok _ (by omega), fun h => end_no (by omega) (wds_end _ h) rfl, fun h => ?_⟩
  unfold qNs at h
  rcases List.mem_append.mp h with h | h
  · exact end_no (d := dr c 90 (i : Int)) (n := i) (by omega) (lays_end _ h) rfl
  · obtain ⟨k, hk, e⟩ := List.mem_map.mp h
    have := List.mem_range.mp hk
    have := dStr_inj (by omega) (by omega) e
    omega
theorem qNs_nd {c : Int} {n : Nat} (hn : n ≤ 60) : (qNs c n).Nodup := by
  induction n with
  | zero => exact (by decide +kernel : (lays ++ []).Nodup)
  | succ n ih =>
    rw [qNs_succ]
    refine List.nodup_append.mpr ⟨ih (by omega), by simp, fun a ha b hb e => ?_⟩
    rw [List.mem_singleton] at hb
    rw [e, hb] at ha
    exact (newB_iff.mp (qNm_new (c := c) (i := n) (by omega))).2.2 ha
theorem dStr_len (d : Int) {n : Nat} (h : n < 64) : (dStr d n).length ≤ 1000 := by
  have := pre_len d
  have h2 := dig_ok h
  unfold dStr
  rw [len_app, len_app, ld1]; omega
end DL
namespace DL
open PySem PySem.Spec PyProof.Rows L2
def w3 (F : List Df) (a : Nat) : Str := ((["via"] : List Str) ++ (F.take a).map (·.1)).getLast (by simp)
theorem ru_md {r : RuX} (h : Form r.1 r.2.1.length r.2.2.length) : MD 5 (ruX r) := by
  have hl := form_len h
  refine md_tup (k := 4) (by unfold rDs; simp; omega) fun e he => ?_
  unfold rDs at he
  simp only [List.mem_cons, List.mem_append, List.mem_map] at he
  rcases he with rfl | ⟨x, _, rfl⟩ | ⟨x, _, rfl⟩
  · exact md_str
  · exact md_str
  · exact md_int
theorem noLs_mem {α : Type} {f : α → D} : ∀ {xs : List α}, (∀ x ∈ xs, noL (f x) = true) → noLs (xs.map f) = true
  | [], _ => rfl
  | x :: xs, h => by
    show (noL (f x) && noLs (xs.map f)) = true
    rw [h x List.mem_cons_self, noLs_mem fun y hy => h y (List.mem_cons_of_mem _ hy)]; rfl
theorem noL_md : ∀ {k : Nat} {d : D}, MD k d → noL d = true
  | 0, d, h => by rcases h with ⟨i, rfl⟩ | ⟨z, rfl⟩ <;> rfl
  | k + 1, d, h => by
    rcases h with (⟨i, rfl⟩ | ⟨z, rfl⟩) | ⟨es, rfl, _, h⟩
    · rfl
    · rfl
    · show noLs es = true
      have := noLs_mem (f := id) (xs := es) fun x hx => noL_md (h x hx)
      rwa [List.map_id] at this
end DL
namespace DL
open PySem PySem.Spec PyProof.Rows L2
theorem strs_dr {K : PySem.W.Frag} {H : Hp} : ∀ ys : List Str, DRs K H (ys.map D.str) (ys.map V.str)
  | [] => rfl
  | y :: ys => ⟨.str y, _, rfl, rfl, strs_dr ys⟩
section
variable {X : Cx} {ρ : En} {o e : Expr} {pos apos : Pos}
/-- o.split(e) -/
theorem eo_split {a b : Str} (ho : ED X ρ o (.str a)) (he : ED X ρ e (.str b)) (hb : (b.length == 0) = false) (hl : a.length + 2 ≤ sizeLine) (hs : starEach [e] X.env = [(false, eval e X.env)] := by rfl) (hbase : attributeBase o "split" X.env (eval o X.env) = eval o X.env := by rfl) (hline : (apos.endLine == pos.line) = true := by rfl) :
    EO X ρ (.Call (.Attribute o "split" apos) [e] [] pos) (.lst ((Txt.split a b).map .str)) := fun B0 B σ H0 H Q j k =>
  RE.of (pe_split pe_star pe_star hs hbase hline) (ho B0 B σ H0 H _ j fun v G0 G g r => by
    cases (show v = .str a from r)
    exact ⟨⟨a, rfl⟩, he B0 B σ G0 G _ (j.grow g) fun y L0 L g2 r2 => by
      cases (show y = .str b from r2)
      refine ⟨a, b, rfl, rfl, hb, hl, fun p hp => ?_⟩
      have g3 : JH L0 L L0 (upd L p (.lst ((Txt.split a b).map V.str))) := JH.own g2.sh hp
      have gg := (g.trans g2).trans g3
      exact k p _ _ _ gg upd_same (g2.sh.free hp) ((g.trans g2).sB.free hp) ⟨_, rfl, strs_dr _⟩⟩)
/-- o.startswith(e) -/
theorem ed_starts {a b : Str} (ho : ED X ρ o (.str a)) (he : ED X ρ e (.str b)) (hs : starEach [e] X.env = [(false, eval e X.env)] := by rfl) (hbase : attributeBase o "startswith" X.env (eval o X.env) = eval o X.env := by rfl) (hline : (apos.endLine == pos.line) = true := by rfl) :
    ED X ρ (.Call (.Attribute o "startswith" apos) [e] [] pos) (.bl (Txt.startswith a b)) := fun B0 B σ H0 H Q j k =>
  RE.of (pe_m1 PySem.F.slot_str_startswith PySem.F.type_str_startswith mt_startswith pe_star pe_star hs hbase hline) (ho B0 B σ H0 H _ j fun v G0 G g r => by
    cases (show v = .str a from r)
    exact ⟨⟨a, rfl⟩, he B0 B σ G0 G _ (j.grow g) fun y L0 L g2 r2 => by
      cases (show y = .str b from r2)
      exact ⟨a, b, rfl, rfl, k _ L0 L (g.trans g2) rfl⟩⟩)
/-- o.isdigit() -/
theorem ed_isdigit {a : Str} (ho : ED X ρ o (.str a)) (hbase : attributeBase o "isdigit" X.env (eval o X.env) = eval o X.env := by rfl) (hline : (apos.endLine == pos.line) = true := by rfl) :
    ED X ρ (.Call (.Attribute o "isdigit" apos) [] [] pos) (.bl (Txt.isdigit a)) := fun B0 B σ H0 H Q j k =>
  RE.of (pe_m0 PySem.F.slot_str_isdigit PySem.F.type_str_isdigit mt_isdigit pe_star hbase hline) (ho B0 B σ H0 H _ j fun v G0 G g r => by
    cases (show v = .str a from r)
    exact ⟨⟨a, rfl⟩, a, rfl, rfl, trivial, k _ G0 G g rfl⟩)
/-- int(text) -/
theorem bc_intS {a : Str} {n : Int} (h : PySem.intText? a = some n) (hl : a.length ≤ 640) : BC X (.type "int") [.str a] (.int n) := ⟨_, call_int_str, fun H0 H vs Q s r k => by
  obtain ⟨x, rfl, h1⟩ := r.one'
  cases (show x = .str a from h1)
  exact ⟨a, n, rfl, h, hl, k _ H0 H (JH.refl s) rfl⟩⟩
/-- (.., *e) -/
theorem ad_star {es : List Expr} {ds zs : List D} {p : Pos} (h : ED X ρ e (.tup zs)) (r : AD X ρ es ds) (hs : starEach (.Starred e p :: es) X.env = (true, eval e X.env) :: starEach es X.env := by rfl) : AD X ρ (.Starred e p :: es) (zs ++ ds) := fun B0 B σ H0 H Q j k =>
  RA.of (StX.pa_star pe_star DL.pa_star hs) (h B0 B σ H0 H _ j fun v G0 G g1 r1 => by
    obtain ⟨a, vs, rfl, h1, h2⟩ := r1
    exact ⟨a, vs, rfl, .inl (Same.seqT g1.sh h1), r B0 B σ G0 G _ (j.grow g1) fun ws L0 L g2 r2 => k (vs ++ ws) L0 L (g1.trans g2) (DRs.app (DRs.mono g2.s0 _ _ h2) r2)⟩)
theorem J.lendL {K : PySem.W.Frag} {B0 B H0 H : Hp} {σ : L2.St} {ρ : En} (j : J K B0 B σ H0 H ρ) {i : Nat} {da : List D} (h : ρ[i]? = some (.ow (.lst da))) :
    ∃ a va, H0 a = none ∧ J K B0 B σ (upd H0 a (.lst va)) H (ρ.set i (.sh (.lst da))) := by
  obtain ⟨ov, e1, a, o, e2, h1, h2, h3, va, rfl, h4⟩ := j.get h
  subst e2
  exact ⟨a, va, h2, (j.shareAt (s' := .sh (.lst da)) (c := .lst da) h e1 rfl h1 ⟨va, rfl, h4⟩ (fun b w => w.elim) fun r => ⟨_, rfl, r⟩).1⟩
/-- an own list is looked at by what gives no list -/
theorem ed_lendN {d : D} (i : Nat) {da : List D} (hi : ρ[i]? = some (.ow (.lst da))) (hz : noL d = true) (h : ED X (ρ.set i (.sh (.lst da))) e d) : ED X ρ e d := fun B0 B σ H0 H Q j kk => by
  obtain ⟨a, va, a0, j'⟩ := j.lendL hi
  refine h B0 B σ _ H Q j' fun v L0 L g r => ?_
  have la : L0 a = some (.lst va) := g.s0 _ _ upd_same
  refine kk v (er L0 a) L ⟨fun x u q => ?_, er_sub.trans g.sh, g.sB, fun x u q nt q' => ?_⟩ (er_dr la d v hz r)
  · have n1 : x ≠ a := fun z => by subst z; rw [a0] at q; cases q
    rw [er_ne n1]
    exact g.s0 _ _ (by rw [upd_ne n1]; exact q)
  · by_cases xa : x = a
    · subst xa; exact er_same
    · rw [er_ne xa]
      exact g.fr x u q nt (by rw [upd_ne xa]; exact q')
end
theorem callWith_type_kwB {M : Model} {A : Around} {E : Value → Shared → Prop} {s : Shared} {pos : Pos} {id : String} {first : List Value} {args : List (Bool × Sem Value)} {keywords : List (Option Str × Sem Value)} {Q : Value → Shared → Prop}
    (hplain : args.any (·.1) = false) (hkw : keywords.any (·.1.isNone) = false)
    (h : wpAny M A (evalArgs (.type id) true args keywords) (fun a s₁ => wpAny M A (call (.type id) (first ++ a.pos) a.kw) Q E s₁) E s) :
    wpAny M A (callWith pos (.type id) first args keywords) Q E s := by
  unfold callWith
  refine wpAny_bind (wpAny_holding (wpAny_mono h (fun a s₁ h₁ => wpAny_bind (wpAny_standAt ?_)) fun _ _ x => x))
  simp only [hplain, hkw, Bool.or_false]
  refine wpAny_bind (wpAny_pure ?_)
  exact wpAny_bind (wpAny_mono h₁ (fun r s₂ hr => wpAny_bind (wpAny_holding (wpAny_point (wpAny_pure hr)))) fun _ _ x => x)
/-- as Ite, counted from k -/
def IteS (K : PySem.W.Frag) (k : Nat) (a : Addr) : It :=
  ⟨fun i H => ∃ (xs : List V) (x : V), SqL K H a xs ∧ xs[i]? = some x, fun i H v H' => ∃ T x, v = .ref T ∧ H T = none ∧ H' = upd H T (.tup [.int ((k : Int) + (i : Int)), x]) ∧ ∀ xs, SqL K H a xs → xs[i]? = some x, fun i H => ∃ xs : List V, SqL K H a xs ∧ xs.length ≤ i⟩
theorem turn_enumS {P : Program} {w : World} {K : PySem.W.Frag} {elts : List Expr} {kk : Nat} {tpos : Pos} (k : Nat) (a e it : Addr) :
    Turn P w K (.Tuple elts kk tpos) (IteS K k a) [e, it] e (fun i h => (∃ old, IsEnum h e it ((k : Int) + (i : Int)) old) ∧ h.IsListIter it a i ∧ e ≠ it ∧ a ≠ it) where
  mem := by simp
  obj := fun i h st b hb => by
    obtain ⟨⟨old, he⟩, ⟨o, ho, hc, hd⟩, _⟩ := st
    have e' : b = e ∨ b = it := by simpa using hb
    rcases e' with z | z
    · rw [z]; exact ⟨_, he, fun v q => nomatch q⟩
    · rw [z]; exact ⟨o, ho, fun v q => by rw [hd] at q; cases q⟩
  keep := fun i h h' st k => let ⟨⟨old, he⟩, hi, hne⟩ := st; ⟨⟨old, k e (by simp) _ he⟩, hi.at fun o q => k it (by simp) o q, hne⟩
  item := by
    intro X hP hw hK hc i pins s σ H E I hf st hg
    subst hP hw hK
    obtain ⟨⟨old, he⟩, hit, hne, hna⟩ := st
    obtain ⟨xs, x, hq, hx⟩ := hg
    obtain ⟨its, rv, p, hz⟩ := I.list hq
    obtain ⟨u, hu, ru⟩ := rv.get hx
    have p' : s.heap.IsList a its.toArray := p.isList
    have hel : e < s.heap.objs.size := Heap.lt_size he
    have hil : it < s.heap.objs.size := by obtain ⟨_, q, _⟩ := hit; exact Heap.lt_size q
    have hea : e ≠ a := fun z => by
      subst z
      obtain ⟨o, q1, q2, _⟩ := p'
      rw [show s.heap.get? e = some _ from he] at q1
      cases q1
      exact absurd (Value.type.inj q2) (by decide)
    have hlt : i < its.toArray.size := by
      have := (List.getElem?_eq_some_iff.mp hu).1
      simpa using this
    refine wpAny_pyNext_enum_itemC (Draws.list (A := X.A.in1) (I.ok.hd hc) it a hna its.toArray) he ⟨hit, p'⟩ hlt hne (by simp [hne, hea]) fun y h' tk hy ho st' hT hsz hk => ?_
    have hyu : y = u := by
      have : its[i]? = some y := by simpa using hy
      rw [hu] at this
      exact (Option.some.inj this).symm
    subst hyu
    refine ⟨_, rfl, wpAny_letOwnedTupleGo_enum (s := { s with heap := h', toks := tk + 1 }) ho fun h'' he' sb => ?_⟩
    have hT2 : h''.get? s.heap.objs.size = some { cls := .type "tuple", data := .seq #[.int ((k : Int) + (i : Int)) tk, y] } := (sb.2 _ (Nat.ne_of_gt hel)).trans hT
    have new : ObjOk X.prog X.w (upd H s.heap.objs.size (.tup [.int ((k : Int) + (i : Int)), x])) h'' s.heap.objs.size (.tup [.int ((k : Int) + (i : Int)), x]) :=
      ⟨by show 2 ≤ sizeLine; decide, [.int ((k : Int) + (i : Int)) tk, y], .cons ⟨_, rfl⟩ (.cons ru .nil), ⟨_, hT2, rfl, _, rfl⟩⟩
    have I1 : Inv X pins σ (upd H s.heap.objs.size (.tup [.int ((k : Int) + (i : Int)), x])) { s with heap := h'', toks := tk + 1 } :=
      I.turnedNew (ch := [e, it]) (fun b ob hb q => (sb.2 b (fun z => hb (by simp [z]))).trans (hk b ob (fun z => hb (by simp [z])) (fun z => hb (by simp [z])) q)) hf (Nat.le_refl _) new
    refine ⟨.ref s.heap.objs.size, _, I1, rfl, ⟨_, x, rfl, I.hok.fresh (Nat.le_refl _), rfl, fun ys hy => by rw [I.list_inj hy hq]; exact hx⟩, ⟨⟨y, ?_⟩, st'.1.at fun o q => (sb.2 it (Ne.symm hne)).trans q, hne, hna⟩, fun b hb => ?_⟩
    · have e1 : (k : Int) + ((i + 1 : Nat) : Int) = (k : Int) + (i : Int) + 1 := by omega
      rw [e1]; exact he'
    · have hb' : b < s.heap.objs.size := by
        have e' : b = e ∨ b = it := by simpa using hb
        rcases e' with z | z
        · rw [z]; exact hel
        · rw [z]; exact hil
      rw [upd_ne (Nat.ne_of_lt hb')]
      exact (hf b hb).1
  done := by
    intro X hP hw hK hc i pins s σ H E I hf st hg
    subst hP hw hK
    obtain ⟨⟨old, he⟩, hit, hne, hna⟩ := st
    obtain ⟨xs, hq, hx⟩ := hg
    obtain ⟨its, rv, p, hz⟩ := I.list hq
    have p' : s.heap.IsList a its.toArray := p.isList
    obtain ⟨f0, f1, f2, f3, f4, f5⟩ := hf it (by simp)
    have hl := rv.length
    have hT : s.TypeIs (.ref e) "enumerate" := ⟨_, he, rfl⟩
    refine (?_ : wpAny _ _ _ _ _ s)
    unfold pyNext
    refine wpAny_bind (wpAny_attempt (wpAny_callSpecial?_slot (name := Str.ofString "__next__") hT F.slot_enumerate_next
      (wpAny_call_entry F.slot_enumerate_next hT F.entry_enumerate_next ?_ (F.args_enumerate_next_1 _))))
    show wpAny _ _ (field (.ref e) 2 >>= _) _ _ _
    refine wpAny_bind (wpAny_field he rfl (x := .ref it) rfl ?_)
    refine wpAny_bind (wpAny_nextOf_list_end (A := X.A.in1) (I.ok.hd hc) hit p' (by simp; omega) fun h' x he' hx' => ?_)
    obtain ⟨o, ho, hc⟩ := hx'
    refine wpAny_bind (wpAny_isInstance (T := "StopIteration") (b := true) ⟨o, ho, hc⟩ isSubtype_stop ?_)
    exact wpAny_pure ⟨rfl, I.turned (t' := s.toks) (fun b o hb q => he' b o hb q) f0 f1 f3 f4 f5⟩
  self := fun A i s Q E st h => let ⟨⟨_, he⟩, _⟩ := st; wpAny_pyIter_enum he h
/-- enumerate(e, start=k) -/
def iEnumS (K : PySem.W.Frag) (k : Nat) (ta : TA) : TI := fun σ H R => ta σ H fun vs H1 => ∃ a xs, vs = [.ref a] ∧ SqL K H1 a xs ∧ R (IteS K k a) H1
theorem pi_enumS {X : Cx} {e : Expr} {ta : TA} {k : Nat} {kc : Nat} {p x0 x1 pos tpos : Pos} {elts : List Expr} {kk : Nat} (hg : Gl X "enumerate") (hm : X.mg "enumerate" = none) (ha : PA X [e] ta) (hk : k < 1000)
    (h1' : backTo pos (starEach [e] X.env) = (false, eval e X.env) :: backTo pos (starEach [] X.env) := by rfl) (h2 : (backTo pos (starEach [e] X.env)).any (·.1) = false := by rfl)
    (h3 : (backToKw pos (keywordEach [⟨some "start", .Constant (.int (k : Int)) kc x0, x1⟩] X.env)).all (·.1.isSome) = true := by rfl) (h4 : (backToKw pos (keywordEach [⟨some "start", .Constant (.int (k : Int)) kc x0, x1⟩] X.env)).any (·.1.isNone) = false := by rfl) (h5 : (backToKw pos (keywordEach [⟨some "start", .Constant (.int (k : Int)) kc x0, x1⟩] X.env)).filterMap (·.1) = [("start" : Str)] := by rfl) :
    PI X (.Tuple elts kk tpos) (.Call (.Name "enumerate" p) [e] [⟨some "start", .Constant (.int (k : Int)) kc x0, x1⟩] pos) (iEnumS X.K k ta) := by
  refine ⟨fun pins s σ H R I h => ?_⟩
  refine wpAny_Call_Name_kw (ld_blt I hg hm boot_enumerate ?_)
  refine callWith_type_kwB h2 h4 ?_
  rw [h1']
  refine evalArgs_kwB h3 ?_
  have hh := ha.run pos pins s σ H _ I h
  rw [h1'] at hh
  refine thn hh fun us s1 ⟨vs, H1, I1, r1, q1⟩ => ?_
  refine thn ((pk_cons (nm := some "start") (pe_int (i := (k : Int)) (j := kc)) pk_nil).run pos pins s1 σ H1 (fun ws H2 => ws = [.int (k : Int)] ∧ H2 = H1) I1 ⟨rfl, rfl⟩) fun ws s2 ⟨zs, H2, I2, r2, q2⟩ => ?_
  obtain ⟨rfl, rfl⟩ := q2
  rw [h5]
  obtain ⟨a, xs, ex, hq, q⟩ := q1
  subst ex
  cases r1 with
  | cons r rr =>
    cases rr
    cases r
    cases r2 with
    | cons t tt =>
      cases tt
      obtain ⟨tz, rfl⟩ := t
      obtain ⟨its, rv, p', hz⟩ := I2.list hq
      have p2 : s2.heap.IsList a its.toArray := p'.isList
      have hlt : a < s2.heap.objs.size := by obtain ⟨_, q, _⟩ := p2; exact Heap.lt_size q
      refine enum_begins_start (begins_list a its.toArray) p2 (by omega) (by omega) fun h' he hit hsz hk => wpAny_pyIter_enum he ?_
      have I3 : Inv X pins σ H2 { s2 with heap := h' } := I2.kept (t' := s2.toks) hk
      refine ⟨s2.heap.objs.size + 1, [s2.heap.objs.size + 1, s2.heap.objs.size], _, _, H2, rfl, I3, turn_enumS k a (s2.heap.objs.size + 1) s2.heap.objs.size, ⟨⟨.none, by simpa using he⟩, ⟨_, hit, rfl, rfl⟩, Nat.succ_ne_self _, Nat.ne_of_lt hlt⟩, fun b hb => ?_, q⟩
      have e' : b = s2.heap.objs.size + 1 ∨ b = s2.heap.objs.size := by simpa using hb
      have hle : s2.heap.objs.size ≤ b := by
        rcases e' with z | z
        · rw [z]; exact Nat.le_add_right _ _
        · rw [z]; exact Nat.le_refl _
      exact I2.fpOk hle (I2.hok.fresh hle)
theorem walk_enumS {K : PySem.W.Frag} {k : Nat} {a : Addr} {xs : List V} : Walk (IteS K k a) xs.length (fun H => SqL K H a xs) (YPair (fun i => some (.int ((k : Int) + (i : Int)))) (fun i => xs[i]?)) := by
  refine ⟨fun i _ hi q => ⟨xs, xs[i], q, by simp [hi]⟩, fun _ q => ⟨xs, q, Nat.le_refl _⟩, fun i H v H' _ q y => ?_⟩
  obtain ⟨T, x, h1, h2, h3, h4⟩ := y
  exact ⟨T, .int ((k : Int) + (i : Int)), x, h1, h2, h3, rfl, h4 xs q⟩
/-- numbered from k -/
def enumK (k : Nat) (ds : List D) : List D := (List.range ds.length).zipWith (fun (i : Nat) d => D.tup [.int ((k : Int) + (i : Int)), d]) ds
theorem enumK_len (k : Nat) (ds : List D) : (enumK k ds).length = ds.length := by simp [enumK]
theorem enumK_get {k : Nat} {ds : List D} {i : Nat} {d : D} (h : (enumK k ds)[i]? = some d) : ∃ d', ds[i]? = some d' ∧ d = .tup [.int ((k : Int) + (i : Int)), d'] := by
  have hi : i < ds.length := by have := (List.getElem?_eq_some_iff.mp h).1; rwa [enumK_len] at this
  refine ⟨ds[i], by simp [hi], ?_⟩
  unfold enumK at h
  rw [List.getElem?_zipWith, List.getElem?_range hi, List.getElem?_eq_getElem hi] at h
  exact (Option.some.inj h).symm
theorem id_enumS {X : Cx} {ρ : En} {a : Expr} {k kc : Nat} {pos x0 x1 : Pos} {ds : List D} {elts : List Expr} {kk : Nat} {tpos p : Pos} (hg : Gl X "enumerate") (hm : X.mg "enumerate" = none) (ha : ED X ρ a (.lst ds)) (hk : k < 1000 := by decide) (hs2 : starEach [a] X.env = (false, eval a X.env) :: starEach [] X.env := by rfl)
    (h1' : backTo pos (starEach [a] X.env) = (false, eval a X.env) :: backTo pos (starEach [] X.env) := by rfl) (h2 : (backTo pos (starEach [a] X.env)).any (·.1) = false := by rfl)
    (h3 : (backToKw pos (keywordEach [⟨some "start", .Constant (.int (k : Int)) kc x0, x1⟩] X.env)).all (·.1.isSome) = true := by rfl) (h4 : (backToKw pos (keywordEach [⟨some "start", .Constant (.int (k : Int)) kc x0, x1⟩] X.env)).any (·.1.isNone) = false := by rfl) (h5 : (backToKw pos (keywordEach [⟨some "start", .Constant (.int (k : Int)) kc x0, x1⟩] X.env)).filterMap (·.1) = [("start" : Str)] := by rfl) :
    ID X ρ (.Tuple elts kk tpos) (.Call (.Name "enumerate" p) [a] [⟨some "start", .Constant (.int (k : Int)) kc x0, x1⟩] pos) (enumK k ds) := fun B0 B σ H0 H R j kq =>
  ⟨_, pi_enumS hg hm DL.pa_star hk h1' h2 h3 h4 h5, ad_cons (X := X) ha ad_nil hs2 B0 B σ H0 H _ j fun vs G0 G g r => by
    obtain ⟨x, rfl, q, ys, rfl, h1, h2⟩ := r.one'
    refine ⟨q, ys, rfl, g.sh.seq h1, kq _ G0 G g (dw_pair (f := fun _ => none) (g := fun _ => none) walk_enumS (by rw [enumK_len, DRs.length h2]) (fun H1 H s1 s2 => (s1.trans s2).seq h1) fun i d hd => ?_)⟩
    obtain ⟨d', e1, rfl⟩ := enumK_get hd
    obtain ⟨v, e2, e3⟩ := DRs.get h2 e1
    refine ⟨_, _, rfl, fun v hv => ?_, fun v' hv => ?_⟩
    · cases hv; rfl
    · rw [e2] at hv; cases hv; exact e3⟩
theorem cutDrop (l : List D) {k : Int} (h : 0 ≤ k) : cutD l (some k) none = l.drop k.toNat := by
  unfold cutD
  show (l.drop (HT.sIx l.length 0 (some k))).take (l.length - HT.sIx l.length 0 (some k)) = _
  have e : HT.sIx l.length 0 (some k) = min k.toNat l.length := by
    unfold HT.sIx; simp only; split <;> omega
  rw [e, List.take_of_length_le (by rw [List.length_drop]; exact Nat.le_refl _)]
  by_cases hk : k.toNat ≤ l.length
  · rw [Nat.min_eq_left hk]
  · rw [Nat.min_eq_right (by omega), List.drop_eq_nil_of_le (Nat.le_refl _), List.drop_eq_nil_of_le (by omega)]
end DL
namespace DL
open PySem PySem.Spec PyProof.Rows L2
section
variable {X : Cx} {ρ : En} {e : Expr} {pos : Pos} {d : D} {cn : Str} {fs ns : List Str} {ds : List D} {f : Str} {Φ : Out → Prop} {rest : List Stmt}
def TP (X : Cx) (ρ : En) (e : Expr) (Ψ : Bool → En → Prop) : Prop := ∀ B0 B σ H0 H (Q : Bool → Hp → Prop), J X.K B0 B σ H0 H ρ → (∀ b ρ' H0' H', Ψ b ρ' → J X.K B0 B σ H0' H' ρ' → Q b H') → RT X e σ H Q
theorem ws_ifP {Ψ : Bool → En → Prop} {sa sb : List Stmt} (hc : TP X ρ e Ψ) (h1 : ∀ ρ', Ψ true ρ' → WSs X sa ρ' Φ) (h2 : ∀ ρ', Ψ false ρ' → WSs X sb ρ' Φ) : WS X (.If e sa sb pos) ρ Φ := fun B0 B σ H0 H Dn j kk => by
  refine ⟨_, ps_if pt_star pss_star pss_star, hc B0 B σ H0 H _ j fun b ρ' H0' H' w j1 => ?_⟩
  cases b with
  | true => exact iteT (h1 ρ' w B0 B σ H0' H' Dn j1 kk)
  | false => exact iteF (h2 ρ' w B0 B σ H0' H' Dn j1 kk)
/-- (.., *e), e a list -/
theorem ad_starL {es : List Expr} {ds zs : List D} {p : Pos} (h : ED X ρ e (.lst zs)) (r : AD X ρ es ds) (hs : starEach (.Starred e p :: es) X.env = (true, eval e X.env) :: starEach es X.env := by rfl) : AD X ρ (.Starred e p :: es) (zs ++ ds) := fun B0 B σ H0 H Q j k =>
  RA.of (StX.pa_star pe_star DL.pa_star hs) (h B0 B σ H0 H _ j fun v G0 G g1 r1 => by
    obtain ⟨a, vs, rfl, h1, h2⟩ := r1
    exact ⟨a, vs, rfl, .inr (g1.sh.seq h1), r B0 B σ G0 G _ (j.grow g1) fun ws L0 L g2 r2 => k (vs ++ ws) L0 L (g1.trans g2) (DRs.app (DRs.mono g2.s0 _ _ h2) r2)⟩)
end
theorem bc_strS {X : Cx} {x : Str} : BC X (.type "str") [.str x] (.str x) := bc_keep SkE.call_str_str _ (fun _ => rfl) fun _ _ vs _ _ r q => by
  obtain ⟨y, rfl, h1⟩ := r.one'
  cases (show y = .str x from h1)
  exact ⟨x, rfl, q⟩
end DL
namespace DL
open PySem PySem.Spec PyProof.Rows L2
/-- alike but for a dict at a, that is locked in one -/
structure FzK (a : Addr) (t : List (Key × V)) (H H' : Hp) : Prop where
  at1 : Rd H a (.dK t)
  at2 : Rd H' a (.dK t)
  ne : ∀ b, b ≠ a → H' b = H b
theorem FzK.rd {a : Addr} {t : List (Key × V)} {H H' : Hp} (f : FzK a t H H') {b : Addr} {u : HO} (hu : ∀ o x, u ≠ .frz o x) (h : Rd H b u) : Rd H' b u := by
  by_cases e : b = a
  · subst e
    rw [Rd.uniq h f.at1 hu (fun _ _ z => by cases z)]
    exact f.at2
  · rcases h with h | ⟨o, h⟩
    · exact .inl (by rw [f.ne b e]; exact h)
    · exact .inr ⟨o, by rw [f.ne b e]; exact h⟩
end DL
namespace DL
open PySem PySem.Spec PyProof.Rows L2
def PrD (K : PySem.W.Frag) (H : Hp) : List (Key × D) → List (V × V) → Prop
  | [], ps => ps = []
  | (k, d) :: r, ps => ∃ v t, ps = (kV k, v) :: t ∧ DR K H d v ∧ PrD K H r t
theorem PrD.mono {K : PySem.W.Frag} {H H' : Hp} (s : Same H H') : ∀ {kds : List (Key × D)} {ps : List (V × V)}, PrD K H kds ps → PrD K H' kds ps
  | [], ps, h => h
  | (k, d) :: r, ps, h => by
    obtain ⟨v, t, rfl, h1, h2⟩ := h
    exact ⟨v, t, rfl, DR.mono s _ _ h1, PrD.mono s h2⟩
end DL
namespace DL
open PySem PySem.Spec PyProof.Rows L2
/-- a def at an address -/
structure FnA (P : Program) (w : World) (K : PySem.W.Frag) (mg : Str → Option Value) (base : Heap) (f : Addr) (k : Nat) (R : List D → D → Prop) : Prop where
  ex : ∃ fd ps, FnOk P w K mg base CX0 k f fd ps (spR K R) ∧ PySem.W.keepIn K (.ref f) = true ∧ Binds K fd ps []
/-- the dict x of the module has the key z -/
structure KdI (K : PySem.W.Frag) (w : World) (mg : Str → Option Value) (x z : Str) : Prop where
  ex : ∃ p es n u, mg x = some (.ref p) ∧ KDict K w p es n ∧ PySem.W.nsIn K p z = some (some u)
theorem kdi_mk {K : PySem.W.Frag} {w : World} {mg : Str → Option Value} {x z : Str} {p : Addr} {es : Array DictEntry} {n : Nat} {u : Value} (h : mg x = some (.ref p)) (l : K.lookup p = some ⟨.type "dict", none, .dict es n, #[]⟩) (q : PySem.W.KeysLit w.params es.toList) (v : PySem.W.nsIn K p z = some (some u)) (lo : (p == sysModules) = false) : KdI K w mg x z := ⟨p, es, n, u, h, ⟨l, q, lo⟩, v⟩
section
variable {X : Cx} {ρ : En} {d : D}
theorem td_notInKd {x z : Str} {e : Expr} {p2 pos : Pos} (h : KdI X.K X.w X.mg x z) (hg : Gl X x) (he : ED X ρ e (.str z)) (hm : behindInMarks .NotIn (.Name x p2) = false := by first | exact nomark _ | rfl) (hd : (x == ("__debug__" : Str)) = false := by decide) : TD X ρ (.Compare e [.NotIn] [.Name x p2] pos) false := fun B0 B σ H0 H Q j kk => by
  obtain ⟨p, es, n, u, h1, h2, h3⟩ := h
  refine RT.of (pt_cmpR (op_notIn_kd h2) pe_star (pe_glob (v := .ref p) hg h1 rfl hd) hm) (he B0 B σ H0 H _ j fun y G0 G g1 r1 => ?_)
  cases (show y = .str z from r1)
  exact ⟨z, some u, rfl, rfl, h3, false, rfl, kk G0 G g1⟩
end
end DL
namespace DL
open PySem PySem.Spec PyProof.Rows L2
/-- the dict x of the module gives for the text z the def g of the module -/
structure KdR (K : PySem.W.Frag) (w : World) (mg : Str → Option Value) (x z g : Str) : Prop where
  ex : ∃ f, mg g = some (.ref f) ∧ KdL K w mg x z (.ad f)
  has : KdI K w mg x z
theorem KdR.fn {P : Program} {w : World} {K : PySem.W.Frag} {mg : Str → Option Value} {base : Heap} {x z g : Str} {k : Nat} {R : List D → D → Prop} (h : KdR K w mg x z g) (G : Fn P w K mg base g k R) : ∃ f, KdL K w mg x z (.ad f) ∧ FnA P w K mg base f k R := by
  obtain ⟨f, h1, h2⟩ := h.ex
  obtain ⟨f', fd, ps, F, hm, hk, hb⟩ := G.ex
  have e := h1.symm.trans hm
  cases e
  exact ⟨f, h2, fd, ps, F, hk, hb⟩
end DL
namespace DL
open PySem PySem.Spec PyProof.Rows L2
section
variable {X : Cx} {ρ : En} {Φ : Out → Prop} {a b : Expr} {pos : Pos} {rest : List Stmt}
theorem tp_or2 {Ψ : Bool → En → Prop} (h : TD X ρ a false) (h' : TP X ρ b Ψ) : TP X ρ (.BoolOp .Or [a, b] pos) Ψ := fun B0 B σ H0 H Q j kk =>
  ⟨_, (pw_or pt_star (pw_or1 pt_star)).pt, h B0 B σ H0 H _ j fun H0' H' g => iteF (h' B0 B σ H0' H' _ (j.grow g) kk)⟩
end
end DL
theorem L2H.RoomH.units {k : Nat} {A : PySem.Around} (r : L2H.RoomH k A) : A.units + 64 < PySem.cLine := by have := r.un; omega
namespace DL
open PySem PySem.Spec PyProof.Rows L2
abbrev stI (i : Int) : Str := Str.ofString (toString i)
theorem str_ext {a b : Str} (h : a.cps.toList = b.cps.toList) : a = b := by
  obtain ⟨⟨x⟩⟩ := a; obtain ⟨⟨y⟩⟩ := b
  simp at h; rw [h]
theorem ofString_app (a b : String) : Str.ofString (a ++ b) = Str.ofString a ++ Str.ofString b := by
  refine str_ext ?_
  rw [cps_app]
  simp only [Str.ofString_eq_toList, String.toList_append, List.map_append]
theorem stI_neg {n : Nat} (h : 0 < n) : stI (-(n : Int)) = ("-" : Str) ++ stI (n : Int) := by
  obtain ⟨m, rfl⟩ := Nat.exists_eq_succ_of_ne_zero (by omega : n ≠ 0)
  show Str.ofString (toString (Int.negSucc m)) = _
  have e : toString (Int.negSucc m) = "-" ++ toString ((m + 1 : Nat) : Int) := rfl
  rw [e, ofString_app]
theorem stI_len {i : Int} {k : Nat} (hk : 0 < k) (h : i.natAbs < 10 ^ k) : (stI i).length ≤ k + 1 := by
  have e : ∀ n : Nat, n < 10 ^ k → (stI (n : Int)).length ≤ k := fun n hn => by
    rw [TL.len_tl, TL.tl_num]
    exact TL.numL_len hk hn
  rcases Int.lt_or_le i 0 with hi | hi
  · have : i = -((i.natAbs : Nat) : Int) := by omega
    rw [this, stI_neg (by omega), app_len]
    have := e i.natAbs h
    have h1 : ("-" : Str).length = 1 := by decide +kernel
    omega
  · have : i = ((i.natAbs : Nat) : Int) := by omega
    rw [this]
    have := e i.natAbs h
    omega
structure Sm (i : Int) : Prop where
  b : i.natAbs < 10 ^ 40
theorem Sm.len {i : Int} (h : Sm i) : (stI i).length ≤ 41 := stI_len (by decide) h.b
theorem Sm.log {i : Int} (h : Sm i) : i.natAbs.log2 < 1920 := by
  have h1 := h.b
  by_cases h0 : i.natAbs = 0
  · rw [h0]; decide
  · have := (Nat.log2_lt h0 (k := 200)).mpr (Nat.lt_of_lt_of_le h1 (by decide +kernel))
    omega
theorem join_len (a : Str) : ∀ ws : List Str, (Str.join a ws).length ≤ sumL ws + ws.length * a.length
  | [] => by show 0 ≤ _; omega
  | [x] => by show x.length ≤ _; simp [sumL]
  | x :: y :: r => by
    show (x ++ a ++ Str.join a (y :: r)).length ≤ _
    have ih := join_len a (y :: r)
    rw [app_len, app_len, sumL_cons, List.length_cons, Nat.succ_mul]
    omega
theorem lens : ("shape" : Str).length = 5 ∧ ("label" : Str).length = 5 ∧ ("place" : Str).length = 5 ∧ (" " : Str).length = 1 ∧ ("cell " : Str).length = 5 ∧ ("\n" : Str).length = 1 := by decide +kernel
theorem sumL_le {k : Nat} : ∀ {zs : List Str}, (∀ z ∈ zs, z.length ≤ k) → sumL zs ≤ k * zs.length
  | [], _ => by simp [sumL]
  | z :: zs, h => by
    have h1 := h z List.mem_cons_self
    have h2 := sumL_le (zs := zs) fun x hx => h x (List.mem_cons_of_mem _ hx)
    rw [sumL_cons, List.length_cons, Nat.mul_succ]; omega
end DL
namespace DL
open PySem PySem.Spec PyProof.Rows L2
structure RdI (i : Int) : Prop where
  b : 0 ≤ i ∧ i < 10 ^ 30
theorem RdI.sm {i : Int} (h : RdI i) : Sm i := ⟨by have := h.b; omega⟩
theorem RdI.tl {i : Int} (h : RdI i) : (stI i).cps.toList = TL.numL i.toNat := by
  have := h.b
  have e := TL.tl_num i.toNat
  rw [show ((i.toNat : Nat) : Int) = i by omega] at e
  exact e
theorem RdI.len {i : Int} (h : RdI i) : (stI i).length ≤ 30 := by
  have := h.b
  have e : (stI i).length = (stI i).cps.toList.length := by rw [Array.length_toList]; rfl
  rw [e, h.tl]
  exact TL.numL_len (by decide) (by omega)
theorem RdI.dig {i : Int} (h : RdI i) : ∀ c ∈ (stI i).cps.toList, 48 ≤ c ∧ c ≤ 57 := fun c hc => by
  rw [h.tl] at hc
  exact TL.numL_digits _ c hc
theorem RdI.ne {i : Int} (h : RdI i) : (stI i).cps.toList ≠ [] := by rw [h.tl]; exact TL.numL_ne _
theorem dig_uni : ∀ c : Fin 10, Unicode.isDigit (48 + c.val) = true := by decide +kernel
theorem RdI.isdigit {i : Int} (h : RdI i) : Txt.isdigit (stI i) = true := by
  unfold Txt.isdigit
  have h1 : 0 < (stI i).length := by
    have := List.length_pos_iff.mpr h.ne
    rwa [Array.length_toList] at this
  rw [Bool.and_eq_true, ← Array.all_toList]
  refine ⟨decide_eq_true h1, List.all_eq_true.mpr fun c hc => ?_⟩
  obtain ⟨a, b⟩ := h.dig c hc
  have := dig_uni ⟨c - 48, by omega⟩
  rwa [show 48 + (c - 48) = c by omega] at this
theorem RdI.int {i : Int} (h : RdI i) : PySem.intText? (stI i) = some i := by
  have hb := h.b
  have e := TL.int_num (n := i.toNat) (by rw [← h.tl, Array.length_toList]; have := h.len; exact Nat.le_trans this (by decide))
  rwa [show ((i.toNat : Nat) : Int) = i by omega] at e
theorem num_first : ∀ n : Nat, 0 < n → (TL.numL n).getD 0 0 ≠ 48 := fun n => by
  induction n using Nat.strongRecOn with
  | _ n ih =>
    intro hn
    by_cases h : n < 10
    · rw [TL.numL_lt h]; show 48 + n ≠ 48; omega
    · rw [TL.numL_step (by omega)]
      have h1 := ih (n / 10) (by omega) (by omega)
      have h2 := TL.numL_ne (n / 10)
      cases q : TL.numL (n / 10) with
      | nil => exact absurd q h2
      | cons c r => rw [q] at h1; exact h1
theorem sgn_0 {c : Nat} (h : sgn c = ("0" : Str)) : c = 48 := by
  have e := congrArg (fun z : Str => z.cps.toList) h
  have e0 : ("0" : Str).cps.toList = [48] := by decide +kernel
  simp only [e0] at e
  have : [c] = [48] := e
  simpa using this
theorem RdI.head {i : Int} (h : RdI i) : (decide (stI i = ("0" : Str)) || !decide (sgn ((stI i).cps.toList.getD 0 0) = ("0" : Str))) = true := by
  have hb := h.b
  by_cases h0 : i = 0
  · subst h0
    rw [show decide (stI 0 = ("0" : Str)) = true by decide +kernel]; rfl
  · rw [decide_eq_false (p := sgn ((stI i).cps.toList.getD 0 0) = ("0" : Str)) (fun e => by
      have := sgn_0 e
      rw [h.tl] at this
      exact num_first i.toNat (by omega) this)]
    simp
theorem sub_minus (x : Str) (h : x.cps.toList.getD 0 0 ≠ 45) : Txt.startswith x "-" = false := by
  rw [Bool.eq_false_iff]
  intro z
  unfold Txt.startswith at z
  rw [Bool.and_eq_true] at z
  have h1 : x.cps.extract 0 (0 + ("-" : Str).length) = ("-" : Str).cps := by
    have := z.2
    change (x.cps.extract 0 (0 + ("-" : Str).length) == ("-" : Str).cps) = true at this
    exact eq_of_beq this
  have e1 : ("-" : Str).length = 1 := by decide +kernel
  have e2 : ("-" : Str).cps.toList = [45] := by decide +kernel
  have h2 := congrArg Array.toList h1
  rw [e1, e2, Array.toList_extract] at h2
  cases q : x.cps.toList with
  | nil => rw [q] at h2; simp at h2
  | cons c r =>
    rw [q] at h h2
    simp [List.extract_eq_drop_take] at h2
    exact h h2
theorem RdI.starts {i : Int} (h : RdI i) : Txt.startswith (stI i) "-" = false := sub_minus _ (by
  have h1 := h.ne
  have h2 := h.dig
  cases q : (stI i).cps.toList with
  | nil => exact absurd q h1
  | cons c r =>
    have := h2 c (by rw [q]; exact List.mem_cons_self)
    show c ≠ 45; omega)
structure WOk (w : Str) : Prop where
  s : 32 ∉ TL.tl w
  l : 10 ∉ TL.tl w
  n : w.length ≤ 41
theorem RdI.w {i : Int} (h : RdI i) : WOk (stI i) := ⟨fun m => by have := h.dig 32 m; omega, fun m => by have := h.dig 10 m; omega, by have := h.len; omega⟩
theorem name_w {x : Str} (h : nameB x = true) : WOk x := by
  have hl := nameB_len h
  unfold nameB at h
  simp only [Bool.and_eq_true] at h
  have ha := List.all_eq_true.mp h.2.2
  refine ⟨fun m => ?_, fun m => ?_, by omega⟩
  · have := ha 32 m; revert this; decide
  · have := ha 10 m; revert this; decide
theorem lit_w : WOk "nets" ∧ WOk "name" ∧ WOk "device" ∧ WOk "n" ∧ WOk "p" := by
  refine ⟨⟨?_, ?_, ?_⟩, ⟨?_, ?_, ?_⟩, ⟨?_, ?_, ?_⟩, ⟨?_, ?_, ?_⟩, ⟨?_, ?_, ?_⟩⟩ <;> decide +kernel
def wN (n : Int) : List Str := ["nets", stI n]
def wQ (q : Nm) : List Str := ["name", q.2, stI q.1]
def wV (v : Dev) : List Str := ["device", v.k, stI v.g, stI v.a, stI v.b, stI v.w, stI v.l]
abbrev lnW (ws : List Str) : Str := Str.join " " ws
def wsC (n : Int) (N : List Nm) (V : List Dev) : List (List Str) := wN n :: (N.map wQ ++ V.map wV)
structure TxOk (n : Int) (N : List Nm) (V : List Dev) : Prop where
  ok : CirOk n N V
  w : ∀ v ∈ V, v.w < 10 ^ 30 ∧ v.l < 10 ^ 30
theorem rd_small {i n : Int} (h : 0 ≤ i ∧ i < n) (hn : n ≤ 200) : RdI i := ⟨by omega⟩
theorem TxOk.q {n : Int} {N : List Nm} {V : List Dev} (t : TxOk n N V) {q : Nm} (h : q ∈ N) : RdI q.1 ∧ nameB q.2 = true := ⟨rd_small (t.ok.nm q h).1 t.ok.nn.2, (t.ok.nm q h).2⟩
structure DvT (v : Dev) : Prop where
  k : v.k = ("n" : Str) ∨ v.k = ("p" : Str)
  g : RdI v.g
  a : RdI v.a
  b : RdI v.b
  w : RdI v.w
  l : RdI v.l
theorem TxOk.v {n : Int} {N : List Nm} {V : List Dev} (t : TxOk n N V) {v : Dev} (h : v ∈ V) : DvT v := by
  have o := t.ok.dv v h
  have hn := t.ok.nn
  have hw := t.w v h
  have := o.g; have := o.e; have := o.w; have := o.l
  exact ⟨o.k, ⟨by omega⟩, ⟨by omega⟩, ⟨by omega⟩, ⟨by omega⟩, ⟨by omega⟩⟩
theorem wQ_ok {q : Nm} (h : RdI q.1 ∧ nameB q.2 = true) : ∀ w ∈ wQ q, WOk w := fun w hw => by
  have : w = "name" ∨ w = q.2 ∨ w = stI q.1 := by simpa [wQ] using hw
  rcases this with rfl | rfl | rfl
  · exact lit_w.2.1
  · exact name_w h.2
  · exact h.1.w
theorem wV_ok {v : Dev} (h : DvT v) : ∀ w ∈ wV v, WOk w := fun w hw => by
  have : w = "device" ∨ w = v.k ∨ w = stI v.g ∨ w = stI v.a ∨ w = stI v.b ∨ w = stI v.w ∨ w = stI v.l := by simpa [wV] using hw
  rcases this with rfl | rfl | rfl | rfl | rfl | rfl | rfl
  · exact lit_w.2.2.1
  · rcases h.k with e | e <;> rw [e]
    · exact lit_w.2.2.2.1
    · exact lit_w.2.2.2.2
  · exact h.g.w
  · exact h.a.w
  · exact h.b.w
  · exact h.w.w
  · exact h.l.w
theorem wN_ok {n : Int} (h : RdI n) : ∀ w ∈ wN n, WOk w := fun w hw => by
  have : w = "nets" ∨ w = stI n := by simpa [wN] using hw
  rcases this with rfl | rfl
  · exact lit_w.1
  · exact h.w
theorem TxOk.n {n : Int} {N : List Nm} {V : List Dev} (t : TxOk n N V) : RdI n := ⟨by have := t.ok.nn; omega⟩
/-- words of a line -/
theorem TxOk.ws {n : Int} {N : List Nm} {V : List Dev} (t : TxOk n N V) {ws : List Str} (h : ws ∈ wsC n N V) : ws ≠ [] ∧ ws.length ≤ 7 ∧ ∀ w ∈ ws, WOk w := by
  unfold wsC at h
  rw [List.mem_cons, List.mem_append, List.mem_map, List.mem_map] at h
  rcases h with rfl | ⟨q, hq, rfl⟩ | ⟨v, hv, rfl⟩
  · exact ⟨by simp [wN], by simp [wN], wN_ok t.n⟩
  · exact ⟨by simp [wQ], by simp [wQ], wQ_ok (t.q hq)⟩
  · exact ⟨by simp [wV], by simp [wV], wV_ok (t.v hv)⟩
theorem mem_joinL {S : List Nat} {c : Nat} : ∀ {ps : List (List Nat)}, c ∈ TL.joinL S ps → c ∈ S ∨ ∃ p ∈ ps, c ∈ p
  | [], h => by cases h
  | [p], h => .inr ⟨p, List.mem_cons_self, h⟩
  | p :: q :: r, h => by
    have h' : c ∈ p ++ (S ++ TL.joinL S (q :: r)) := h
    rw [List.mem_append, List.mem_append] at h'
    rcases h' with h | h | h
    · exact .inr ⟨p, List.mem_cons_self, h⟩
    · exact .inl h
    · rcases mem_joinL h with h | ⟨x, hx, h⟩
      · exact .inl h
      · exact .inr ⟨x, List.mem_cons_of_mem _ hx, h⟩
theorem sep_tl : TL.tl (" " : Str) = [32] ∧ TL.tl ("\n" : Str) = [10] := by decide +kernel
theorem ln_free {ws : List Str} (h : ∀ w ∈ ws, WOk w) : 10 ∉ TL.tl (lnW ws) := fun m => by
  unfold lnW at m
  rw [TL.tl_join, sep_tl.1] at m
  rcases mem_joinL m with m | ⟨p, hp, m⟩
  · simp at m
  · obtain ⟨w, hw, rfl⟩ := List.mem_map.mp hp
    exact (h w hw).l m
theorem ln_split {ws : List Str} (hne : ws ≠ []) (h : ∀ w ∈ ws, WOk w) : Txt.split (lnW ws) " " = ws := by
  unfold lnW
  rw [← TL.join_eq]
  exact TL.split_join sep_tl.1 (by decide +kernel) hne fun w hw => (h w hw).s
theorem at_head {i : Int} (h : RdI i) : atI (stI i).cps.toList 0 = some ((stI i).cps.toList.getD 0 0) := by
  refine atI_nn (by decide) ?_
  have hn := h.ne
  cases q : (stI i).cps.toList with
  | nil => exact absurd q hn
  | cons c r => rfl
theorem DvT.all {v : Dev} (h : DvT v) : ∀ i ∈ ([v.g, v.a, v.b, v.w, v.l] : List Int), RdI i := fun i hi => by
  have hi : i = v.g ∨ i = v.a ∨ i = v.b ∨ i = v.w ∨ i = v.l := by simpa using hi
  rcases hi with rfl | rfl | rfl | rfl | rfl
  · exact h.g
  · exact h.a
  · exact h.b
  · exact h.w
  · exact h.l
end DL
namespace DL
open PySem PySem.Spec PyProof.Rows L2
structure Rz (i : Int) : Prop where
  b : i.natAbs < 10 ^ 30
/-- the digits of a number -/
def dgI (i : Int) : Str := stI (i.natAbs : Int)
theorem Rz.rd {i : Int} (h : Rz i) : RdI (i.natAbs : Int) := ⟨by have := h.b; omega⟩
theorem Rz.sm {i : Int} (h : Rz i) : Sm i := ⟨by have := h.b; omega⟩
theorem stI_pos {i : Int} (h : 0 ≤ i) : stI i = dgI i := by unfold dgI; rw [show ((i.natAbs : Nat) : Int) = i by omega]
theorem stI_min {i : Int} (h : i < 0) : stI i = ("-" : Str) ++ dgI i := by
  have e : i = -((i.natAbs : Nat) : Int) := by omega
  unfold dgI
  conv => lhs; rw [e]
  exact stI_neg (by omega)
theorem minus_tl : ("-" : Str).cps.toList = [45] ∧ ("-" : Str).length = 1 := by decide +kernel
theorem stI_tl {i : Int} (h : i < 0) : (stI i).cps.toList = 45 :: (dgI i).cps.toList := by rw [stI_min h, cps_app, minus_tl.1]; rfl
theorem starts_yes (w : Str) : Txt.startswith (("-" : Str) ++ w) "-" = true := by
  unfold Txt.startswith
  rw [Bool.and_eq_true]
  refine ⟨decide_eq_true (by rw [app_len, minus_tl.2]; omega), ?_⟩
  change ((("-" : Str) ++ w).cps.extract 0 (0 + ("-" : Str).length) == ("-" : Str).cps) = true
  rw [beq_iff_eq, minus_tl.2]
  refine Array.ext' ?_
  rw [Array.toList_extract, cps_app, minus_tl.1]
  simp [List.extract_eq_drop_take]
theorem Rz.starts {i : Int} (h : Rz i) : Txt.startswith (stI i) "-" = decide (i < 0) := by
  rcases Int.lt_or_le i 0 with hi | hi
  · rw [stI_min hi, starts_yes, decide_eq_true hi]
  · rw [stI_pos hi, decide_eq_false (by omega)]; exact h.rd.starts
theorem Rz.int {i : Int} (h : Rz i) : PySem.intText? (stI i) = some i := by
  rcases Int.lt_or_le i 0 with hi | hi
  · have hl : (stI i).length ≤ 31 := by rw [stI_min hi, app_len, minus_tl.2]; have := h.rd.len; unfold dgI; omega
    have e := PySem.intText_neg (stI_tl hi) (by have := h.rd.tl; unfold dgI; rw [this]; exact TL.numL_digits _) (by unfold dgI; exact h.rd.ne) (by omega)
    rw [e]
    have h2 := h.rd.tl
    unfold dgI
    rw [h2, TL.numL_val]
    congr 1; omega
  · rw [stI_pos hi]
    have := h.rd.int
    unfold dgI
    rw [this]; congr 1; omega
theorem Rz.len {i : Int} (h : Rz i) : (stI i).length ≤ 31 := by
  rcases Int.lt_or_le i 0 with hi | hi
  · rw [stI_min hi, app_len, minus_tl.2]; have := h.rd.len; unfold dgI; omega
  · rw [stI_pos hi]; have := h.rd.len; unfold dgI; omega
theorem Rz.w {i : Int} (h : Rz i) : WOk (stI i) := by
  rcases Int.lt_or_le i 0 with hi | hi
  · have hw := h.rd.w
    have e := stI_tl hi
    refine ⟨fun m => ?_, fun m => ?_, by have := h.len; omega⟩
    · have m' : 32 ∈ (stI i).cps.toList := m
      rw [e] at m'
      rcases List.mem_cons.mp m' with z | z
      · cases z
      · exact hw.s z
    · have m' : 10 ∈ (stI i).cps.toList := m
      rw [e] at m'
      rcases List.mem_cons.mp m' with z | z
      · cases z
      · exact hw.l z
  · rw [stI_pos hi]; exact h.rd.w
/-- the word without its sign -/
theorem cut_min {i : Int} (h : i < 0) : cutS (stI i) (some 1) none = dgI i := by
  have e := stI_tl h
  have hl : (stI i).length = (dgI i).cps.toList.length + 1 := by
    have : (stI i).cps.toList.length = (dgI i).cps.toList.length + 1 := by rw [e]; rfl
    rwa [Array.length_toList] at this
  have e1 : HT.sIx (stI i).length 0 (some 1) = 1 := by
    unfold HT.sIx; simp only; rw [hl]; split <;> omega
  refine str_ext ?_
  unfold cutS
  rw [e1]
  show ((stI i).cps.toList.drop 1).take ((stI i).length - 1) = _
  rw [e]
  refine List.take_of_length_le ?_
  show (dgI i).cps.toList.length ≤ _
  omega
/-- a word that may be read -/
theorem Rz.head {i : Int} (h : Rz i) : (decide (stI i = ("0" : Str)) || !decide (sgn ((dgI i).cps.toList.getD 0 0) = ("0" : Str))) = true := by
  have hh := h.rd.head
  rcases Int.lt_or_le i 0 with hi | hi
  · have n0 : (dgI i) ≠ ("0" : Str) := fun e => by
      have e2 := congrArg (fun z : Str => z.cps.toList) e
      have e0 : ("0" : Str).cps.toList = [48] := by decide +kernel
      simp only [e0] at e2
      unfold dgI at e2
      rw [h.rd.tl] at e2
      have := num_first i.natAbs (by omega)
      rw [show ((i.natAbs : Int)).toNat = i.natAbs by omega] at e2
      rw [e2] at this
      exact this rfl
    have hh' : (decide (dgI i = ("0" : Str)) || !decide (sgn ((dgI i).cps.toList.getD 0 0) = ("0" : Str))) = true := hh
    rw [decide_eq_false n0, Bool.false_or] at hh'
    rw [hh', Bool.or_true]
  · rw [stI_pos hi]; exact hh
theorem dg_if {i : Int} (k : Bool) (hk : k = decide (i < 0)) : (if k = true then D.str (cutS (stI i) (some 1) none) else D.str (stI i)) = D.str (dgI i) := by
  subst hk
  by_cases hs : i < 0
  · rw [if_pos (decide_eq_true hs)]; exact congrArg D.str (cut_min hs)
  · rw [if_neg (by simpa using hs)]; exact congrArg D.str (stI_pos (by omega))
theorem Rz.dlen {i : Int} (h : Rz i) : (dgI i).length ≤ 30 := h.rd.len
end DL
namespace DL
open PySem PySem.Spec L2
structure Gr (xs ys : List Int) (R : List Row) : Prop where
  y : ∀ p ∈ R, p.1 ∈ ys ∧ p.2.1 ∈ ys
  x : ∀ p ∈ R, ∀ c ∈ p.2.2, c ∈ xs
theorem sub_len {l xs : List Int} (h : Asc l) (hs : ∀ c ∈ l, c ∈ xs) : l.length ≤ xs.length := by
  induction l generalizing xs with
  | nil => simp
  | cons c l ih =>
    have hp := List.pairwise_cons.mp h
    have := ih (xs := xs.erase c) hp.2 fun d hd => by
      have h1 := hs d (List.mem_cons_of_mem _ hd)
      have h2 := hp.1 d hd
      exact (List.mem_erase_of_ne (by omega)).mpr h1
    have hc := hs c List.mem_cons_self
    rw [List.length_erase_of_mem hc] at this
    have := List.length_pos_of_mem hc
    rw [List.length_cons]; omega
theorem Gr.edges {xs ys : List Int} {R : List Row} (g : Gr xs ys R) (h : ROk R) : ∀ p ∈ R, p.2.2.length ≤ xs.length := fun p hp => sub_len (h.ed p hp).asc (g.x p hp)
theorem Gr.row {xs ys : List Int} {R : List Row} (g : Gr xs ys R) (y : Int) : ∀ c ∈ rowAt R y, c ∈ xs := by
  rcases segVal_mem (e := ([] : List Int)) (l := R) (y := y) with e | ⟨p, h1, _, _, e⟩
  · unfold rowAt; rw [e]; simp
  · unfold rowAt; rw [← e]; exact g.x p h1
/-- rows that are fit: their form, and not too many -/
structure Fit (R : List Row) : Prop where
  ok : ROk R
  rows : R.length ≤ 1000
  edges : ∀ p ∈ R, p.2.2.length ≤ 1000
theorem Fit.row {R : List Row} (h : Fit R) (y : Int) : (rowAt R y).length ≤ 1000 := by
  rcases segVal_mem (e := ([] : List Int)) (l := R) (y := y) with e | ⟨p, h1, _, _, e⟩
  · unfold rowAt; rw [e]; simp
  · unfold rowAt; rw [← e]; exact h.edges p h1
end DL
namespace DL
open PySem PySem.Spec L2
def VB (bs : List Bx) : Prop := ∀ b ∈ bs, b.a < b.c ∧ b.b < b.d
end DL
namespace DL
open PySem PySem.Spec L2
def bx_0 : Bx := ⟨0, 0, 0, 0⟩
theorem getD_memB {bs : List Bx} {k : Nat} (h : k < bs.length) : bs.getD k bx_0 ∈ bs := by
  rw [List.getD_eq_getElem?_getD, List.getElem?_eq_getElem h]; exact List.getElem_mem h
end DL
namespace DL
open PySem PySem.Spec L2
/-- in the order of a region -/
def Bef (b k : Bx) : Prop := b.d ≤ k.b ∨ (b.b = k.b ∧ b.d = k.d ∧ b.c < k.a)
abbrev ub (U : List Bx) (i : Nat) : Bx := U.getD i bx_0
structure Reg (U : List Bx) : Prop where
  v : VB U
  o : U.Pairwise Bef
theorem Reg.lt {U : List Bx} (h : Reg U) {i j : Nat} (hij : i < j) (hj : j < U.length) : Bef (ub U i) (ub U j) := by
  have := List.pairwise_iff_getElem.mp h.o i j (by omega) hj hij
  unfold ub
  rw [List.getD_eq_getElem?_getD, List.getD_eq_getElem?_getD, List.getElem?_eq_getElem (by omega), List.getElem?_eq_getElem hj]
  exact this
theorem Reg.ok {U : List Bx} (h : Reg U) {i : Nat} (hi : i < U.length) : (ub U i).a < (ub U i).c ∧ (ub U i).b < (ub U i).d := h.v _ (getD_memB hi)
/-- m lies wholly before what i can stand on -/
def Dd (U : List Bx) (m i : Nat) : Prop := (ub U m).d < (ub U i).b ∨ ((ub U m).d = (ub U i).b ∧ (ub U m).c ≤ (ub U i).a)
theorem Dd.mono {U : List Bx} (h : Reg U) {m i j : Nat} (d : Dd U m i) (hij : i ≤ j) (hj : j < U.length) : Dd U m j := by
  rcases Nat.lt_or_eq_of_le hij with q | q
  · have h1 := h.lt q hj
    have h2 := h.ok (i := i) (by omega)
    unfold Dd Bef at *
    omega
  · rw [← q]; exact d
end DL
namespace DL
open PySem PySem.Spec PyProof.Rows L2
section
variable {X : Cx} {ρ : En} {o e : Expr} {pos apos : Pos} {cn m : Str} {k : Nat} {R : RLnt} {d : D} {pl' : Sem Bool} {Ψc : Addr → Cs → Prop}
/-- o.m(), o a new instance that nobody else knows -/
theorem ed_makeM0 (G : FnML X.prog X.w X.K X.mg X.base cn m k R) (hr : Room k X.A) (ho : EC X ρ o Ψc)
    (hR : ∀ a cs, Ψc a cs → ∃ ns fds Ψ, (a, OC.ins cn ns fds) ∈ cs ∧ ns.contains m = false ∧ R a cs [] Ψ ∧ ∀ cs' d', Ψ cs' d' → d' = d)
    (ht : eval (.Call (.Attribute o m apos) [] [] pos) X.env = (do
      let ov ← eval o X.env
      standAt apos.atName
      let (f, first) ← holding [ov] (getMethod ov m pl')
      callWith pos f first (backTo pos (starEach [] X.env)) (backToKw pos (keywordEach [] X.env))) := by rfl) :
    ED X ρ (.Call (.Attribute o m apos) [] [] pos) d := fun B0 B σ H0 H Q j kk => by
  obtain ⟨C, f, fd, ps, hC, hc, hmt, F, hb⟩ := G.ex
  refine RE.of (pe_meth0 (E := E0) pe_star hc hmt F hr hb .nil pass0 ht) (ho B0 B σ H0 H _ j fun a cs G0 G w g hcs nd => ?_)
  obtain ⟨ns, fds, Ψ, hm, hnm, hRR, hd⟩ := hR a cs w
  obtain ⟨u, h1, _, _, vs, C', dx, rfl, hC', hlen, hvs⟩ := (hcs _ hm).ex
  rw [hC] at hC'; cases hC'
  refine ⟨a, dx, _, rfl, h1, zip_none hnm, ?_⟩
  have hfree : ∀ b, b ∈ pl cs → H b = none := fun b hb => by
    obtain ⟨p, hp, rfl⟩ := List.mem_map.mp hb
    obtain ⟨_, _, _, q, _⟩ := (hcs p hp).ex
    exact q
  have sE : Same H (ers G (pl cs)) := fun b u e => by
    rw [ers_out fun hb => by rw [hfree b hb] at e; cases e]
    exact g.sB b u e
  refine ⟨G0, a, cs, [], [], Ψ, rfl, g.sh, fun p hp => ?_, nd, rfl, hRR, fun cs' d' v M0 M w3 g3 c3 n3 r3 => ?_⟩
  · obtain ⟨u, q1, q2, q3, q4⟩ := (hcs p hp).ex
    exact ⟨u, q1, q2, ers_in (List.mem_map.mpr ⟨p, hp, rfl⟩), q4⟩
  · cases hd cs' d' w3
    exact kk v M0 M ⟨g.s0.trans g3.s0, g3.sh, sE.trans g3.sB, fun b u e nt q => g3.fr b u (sE b u e) nt (g.fr b u e nt q)⟩ r3
/-- f([e]) -/
theorem ep_callL1 {x : Str} {kx : Nat} {Rx : List D → D → Prop} {p p2 : Pos} {Ψ Ψ2 : D → En → Prop} (G : Fn X.prog X.w X.K X.mg X.base x kx Rx) (hr : Room kx X.A) (hg : Gl X x) (h : EP X ρ e Ψ) (hR : ∀ d ρ', Ψ d ρ' → ∃ d2, Rx [.lst [d]] d2 ∧ Ψ2 d2 ρ')
    (s1 : starEach [e] X.env = (false, eval e X.env) :: starEach [] X.env := by rfl)
    (s3 : starEach [.List [e] p2] X.env = (false, eval (.List [e] p2) X.env) :: starEach [] X.env := by rfl) (hpl : (backTo pos (starEach [] X.env)).any (·.1) = false := by rfl) (hdb : (x == ("__debug__" : Str)) = false := by decide +kernel) :
    EP X ρ (.Call (.Name x p) [.List [e] p2] [] pos) Ψ2 := fun B0 B σ H0 H Q j kk => by
  obtain ⟨f, fd, ps, F, hm, hk, hb⟩ := G.ex
  refine RE.of (pe_call (E := E0) F hr hg hm hk hb .nil pass0 (pa_cons (pe_lst (pa_cons pe_star pa_nil s1)) pa_nil s3) hdb s3 hpl) ?_
  refine h B0 B σ H0 H _ j fun d ρ' v G0 G w t1 j1 r => ?_
  refine ⟨by simp only [List.length_cons, List.length_nil]; decide, fun l hl => ?_⟩
  have g2 : JH G0 G (upd G0 l (.lst [v])) (upd G l (.lst [v])) := JH.new j1.hp.sh hl
  obtain ⟨d2, r2, w2⟩ := hR d ρ' w
  have rl : DRs X.K (upd G0 l (.lst [v])) [.lst [d]] [.ref l] := ⟨_, _, rfl, ⟨l, [v], rfl, SqL.of upd_same, ⟨v, [], rfl, DR.mono g2.s0 _ _ r, rfl⟩⟩, rfl⟩
  exact ⟨_, _, d2, g2.sh, rl, r2, fun v2 L0 L g3 r3 => kk d2 ρ' v2 L0 L w2 (t1.trans (g2.s0.trans g3.s0)) ((j1.grow g2).grow g3) r3⟩
end
section
variable {X : Cx} {ρ ρ2 : En} {a b : Expr} {pos : Pos} {d1 d2 : D}
/-- e op f as a test, e changes slots -/
theorem tp_cmpL {op : CmpOp} {k : Bool} {Ψ : D → En → Prop} (ha : EP X ρ a Ψ) (hd : ∀ d ρ', Ψ d ρ' → d = d1 ∧ ρ' = ρ2) (hb : ED X ρ2 b d2) (ho : C2 X op d1 d2 (.bl k)) (hm : behindInMarks op b = false := by first | exact nomark _ | rfl) : TP X ρ (.Compare a [op] [b] pos) (fun q ρ' => q = k ∧ ρ' = ρ2) := fun B0 B σ H0 H Q j kk => by
  obtain ⟨r, h1, h2⟩ := ho
  refine RT.of (pt_cmpR h1 pe_star pe_star hm) (ha B0 B σ H0 H _ j fun d ρ' x G0 G w s1 j1 r1 => ?_)
  obtain ⟨rfl, rfl⟩ := hd d ρ' w
  refine hb B0 B σ G0 G _ j1 fun y L0 L g2 r2 => ?_
  exact h2 L0 L x y _ g2.sh (DR.mono g2.s0 _ _ r1) r2 fun v M0 M g3 r3 => ⟨k, r3, kk k _ M0 M ⟨rfl, rfl⟩ ((j1.grow g2).grow g3)⟩
end
/-- self.f += n -/
theorem ws_augF {X : Cx} {ρ : En} {pos : Pos} {cn f : Str} {ns fs : List Str} {ds : List D} {Φ : Out → Prop} (s m : Nat) {i n : Int} {a : Addr} {x : Str} {p pos' : Pos} {value : Expr} {cs : Cs} (kl : Kl X.K X.mg cn fs) (hρ : ρ[s]? = some (.ox ((a, .ins cn ns ds) :: cs) (.ad a))) (hd : ds[m]? = some (.int i)) (hv : ED X ρ value (.int n)) (hΦ : Φ (.nx (ρ.set s (.ox ((a, .ins cn ns (ds.set m (.int (i + n)))) :: cs) (.ad a)))))
    (hold : ns[m]? = some f := by rfl) (hu : (ns.take m).contains f = false := by decide +kernel) (hf : f ∈ fs := by decide +kernel) (hlt : ns.length < 1000 := by decide)
    (hN : X.N[s]? = some x := by rfl) (hvis : Vis X.env.scope x := by first | exact Or.inl rfl | exact Or.inr (Or.inl rfl) | exact Or.inr (Or.inr rfl)) (hdb : (x == ("__debug__" : Str)) = false := by decide) (hcd : (x == ("__classdict__" : Str)) = false := by decide) : WS X (.AugAssign (.Attribute (.Name x p) f pos') .Add value pos) ρ Φ := fun B0 B σ H0 H Dn j k => by
  refine ⟨_, ps_fldaug (pe_var hN hvis hdb hcd) pe_star in_add, ?_⟩
  obtain ⟨ov, e1, ⟨v1, rfl, rv⟩, hcs, nd⟩ := j.get hρ
  cases (show v1 = .ref a from rv)
  obtain ⟨o, h1, h2, h3, vs, C, dx, rfl, hC, hlen, hvs⟩ := (hcs _ (List.mem_cons_self ..)).ex
  obtain ⟨C', hC', hm, hc, hk, hna⟩ := kl.ex
  rw [hC] at hC'; cases hC'
  obtain ⟨v, hv', rv'⟩ := DRs.get hvs hd
  cases (show v = .int i from rv')
  refine ⟨_, e1, a, C, dx, _, .int i, rfl, h1, hc.cl, hna f hf, zip_at hold hu hv', hv B0 B σ H0 H _ j fun y G0 G g r => ?_⟩
  cases (show y = .int n from r)
  have j1 := j.grow g
  obtain ⟨ov', e1', ⟨v1', rfl, rv'⟩, hcs', nd'⟩ := j1.get hρ
  cases (show v1' = .ref a from rv')
  obtain ⟨o', h1', h2', h3', vs', C2, dx', rfl, hC2, hlen', hvs'⟩ := (hcs' _ (List.mem_cons_self ..)).ex
  rw [hC] at hC2; cases hC2
  have hl : (ns.zip vs').length < 1000 := by rw [List.length_zip]; omega
  refine ⟨i, n, rfl, rfl, dx', _, h1', hl, ?_⟩
  rw [putF_old hold hu hlen']
  have hds : DRs X.K G0 (ds.set m (.int (i + n))) (vs'.set m (.int (i + n))) := DRs.set (show DR X.K G0 (.int (i + n)) (.int (i + n)) from rfl) m hvs'
  have j2 := j1.put (c' := .ins cn ns (ds.set m (.int (i + n)))) (o := .ins C dx' (ns.zip (vs'.set m (.int (i + n))))) hρ (List.mem_cons_self ..) ⟨vs'.set m (.int (i + n)), C, dx', rfl, hC, by simp [hlen'], hds⟩
  rw [putC_hd nd'] at j2
  exact k _ hΦ _ _ _ j2
def lcScope9 (d : Scope) : Expr → Scope
  | .ListComp _ _ sc _ => sc
  | .Call _ (e :: _) _ _ => (match e with
    | .ListComp _ _ sc _ => sc
    | _ => d)
  | _ => d
def retScope9 (s : Stmt) : Scope := match (defBody s).getLast? with
  | some (.Return (some e) _) => lcScope9 (defScope s) e
  | _ => defScope s
def rbScope9 (s : Stmt) : Scope := match (defBody s).getLast? with
  | some (.Return (some (.BinOp _ _ e _)) _) => lcScope9 (defScope s) e
  | _ => defScope s
end DL
namespace DL
open PySem PySem.Spec PyProof.Rows L2
def Ex.isT : Ex → Bool
  | .two _ _ _ => true
  | _ => false
def exW : Ex → List Str
  | .lay n => [n]
  | .two o l r => exW l ++ opP o :: (if r.isT then "(" :: (exW r ++ ([")"] : List Str)) else exW r)
  | .siz o n x => opS o :: stI n :: (if x.isT then "(" :: (exW x ++ ([")"] : List Str)) else exW x)
def ptW (x : Ex) : List Str := if x.isT then "(" :: (exW x ++ ([")"] : List Str)) else exW x
theorem exW_two (o : Fin 4) (l r : Ex) : exW (.two o l r) = exW l ++ opP o :: ptW r := rfl
theorem exW_siz (o : Fin 3) (n : Int) (x : Ex) : exW (.siz o n x) = opS o :: stI n :: ptW x := rfl
theorem ptW_t {x : Ex} (h : x.isT = true) : ptW x = ("(" : Str) :: (exW x ++ ([")"] : List Str)) := by unfold ptW; rw [if_pos h]
theorem ptW_f {x : Ex} (h : x.isT = false) : ptW x = exW x := by unfold ptW; rw [h]; rfl
def exA : Ex → Ex
  | .two _ l _ => exA l
  | x => x
def exL : Ex → List (Fin 4 × Ex)
  | .two o l r => exL l ++ [(o, r)]
  | _ => []
def opW (p : Fin 4 × Ex) : List Str := opP p.1 :: ptW p.2
theorem sp_words : ∀ x : Ex, exW x = exW (exA x) ++ (exL x).flatMap opW
  | .lay n => by show _ = _ ++ []; rw [List.append_nil]; rfl
  | .siz o n x => by show _ = _ ++ []; rw [List.append_nil]; rfl
  | .two o l r => by
    rw [exW_two, sp_words l]
    show _ = exW (exA l) ++ (exL l ++ [(o, r)]).flatMap opW
    rw [List.flatMap_append, List.append_assoc]
    congr 2
    simp [opW]
def exF (x : Ex) (m : Nat) : Ex := ((exL x).take m).foldl (fun f p => .two p.1 f p.2) (exA x)
theorem exF_zero (x : Ex) : exF x 0 = exA x := rfl
theorem exF_succ {x : Ex} {m : Nat} {p : Fin 4 × Ex} (h : (exL x)[m]? = some p) : exF x (m + 1) = .two p.1 (exF x m) p.2 := by
  unfold exF
  rw [List.take_add_one, h, List.foldl_append]; rfl
theorem sp_full : ∀ x : Ex, (exL x).foldl (fun f p => .two p.1 f p.2) (exA x) = x
  | .lay n => rfl
  | .siz o n x => rfl
  | .two o l r => by
    show (exL l ++ [(o, r)]).foldl _ (exA l) = _
    rw [List.foldl_append, sp_full l]; rfl
theorem exF_full (x : Ex) : exF x (exL x).length = x := by unfold exF; rw [List.take_length]; exact sp_full x
theorem exA_not : ∀ x : Ex, (exA x).isT = false
  | .lay n => rfl
  | .siz o n x => rfl
  | .two o l r => exA_not l
theorem okE_mono {L : List Str} : ∀ (d : Nat) (x : Ex), okE L d x = true → okE L (d + 1) x = true
  | 0, _, h => by cases h
  | d + 1, .lay n, h => h
  | d + 1, .two o l r, h => by
    rw [okE_two, Bool.and_eq_true] at h ⊢
    exact ⟨okE_mono d l h.1, okE_mono d r h.2⟩
  | d + 1, .siz o n x, h => by
    rw [okE_siz, Bool.and_eq_true] at h ⊢
    exact ⟨h.1, okE_mono d x h.2⟩
theorem exA_ok {L : List Str} : ∀ (x : Ex) {d : Nat}, okE L d x = true → okE L d (exA x) = true
  | .lay n, d, h => h
  | .siz o n x, d, h => h
  | .two o l r, 0, h => by cases h
  | .two o l r, d + 1, h => by
    rw [okE_two, Bool.and_eq_true] at h
    exact exA_ok l (okE_mono d l h.1)
theorem exL_ok {L : List Str} : ∀ (x : Ex) {d : Nat}, okE L d x = true → ∀ p ∈ exL x, okE L (d - 1) p.2 = true ∧ p.2.dep + 1 ≤ x.dep
  | .lay n, d, h, p, hp => by cases hp
  | .siz o n x, d, h, p, hp => by cases hp
  | .two o l r, 0, h, p, hp => by cases h
  | .two o l r, d + 1, h, p, hp => by
    rw [okE_two, Bool.and_eq_true] at h
    have hp : p ∈ exL l ++ [(o, r)] := hp
    rcases List.mem_append.mp hp with hp | hp
    · obtain ⟨h1, h2⟩ := exL_ok l h.1 p hp
      refine ⟨?_, by show _ ≤ max l.dep r.dep + 1; omega⟩
      cases d with
      | zero => cases h.1
      | succ d => exact okE_mono d _ h1
    · rw [List.mem_singleton.mp hp]
      exact ⟨h.2, by show _ ≤ max l.dep r.dep + 1; show r.dep + 1 ≤ _; omega⟩
theorem exA_dep : ∀ x : Ex, (exA x).dep + (exL x).length ≤ x.dep
  | .lay n => Nat.le_refl _
  | .siz o n x => Nat.le_refl _
  | .two o l r => by
    have := exA_dep l
    show (exA l).dep + (exL l ++ [(o, r)]).length ≤ max l.dep r.dep + 1
    rw [List.length_append, List.length_cons, List.length_nil]; omega
theorem fold_dep : ∀ (ps : List (Fin 4 × Ex)) (a : Ex) (m : Nat), ((ps.take m).foldl (fun f p => .two p.1 f p.2) a).dep ≤ (ps.foldl (fun f p => .two p.1 f p.2) a).dep
  | [], a, m => by rw [List.take_nil]; exact Nat.le_refl _
  | p :: ps, a, 0 => by
    rw [List.foldl_cons]
    have h := fold_dep ps (.two p.1 a p.2) 0
    refine Nat.le_trans ?_ h
    show a.dep ≤ max a.dep p.2.dep + 1; omega
  | p :: ps, a, m + 1 => by
    rw [List.take_succ_cons, List.foldl_cons, List.foldl_cons]
    exact fold_dep ps _ m
theorem exF_dep (x : Ex) (m : Nat) : (exF x m).dep ≤ x.dep := by
  have h := fold_dep (exL x) (exA x) m
  rwa [sp_full] at h
/-- no layer has a name that means something else -/
def LyG (L : List Str) : Prop := ∀ n ∈ L, n ∉ wds9 ∧ n ≠ "(" ∧ nameB n = true
theorem opL_sub : (∀ x ∈ opL4, x ∈ wds9) ∧ (∀ x ∈ opL3, x ∈ wds9) := by decide +kernel
def wAtI (W : List Str) (i : Nat) : Str := W.getD i ""
theorem wAt_hd {W : List Str} {i : Nat} {w : Str} {r : List Str} (h : W.drop i = w :: r) : wAtI W i = w ∧ i < W.length ∧ W.drop (i + 1) = r := by
  have hl := congrArg List.length h
  rw [List.length_drop, List.length_cons] at hl
  refine ⟨?_, by omega, by rw [← List.drop_drop, h]; rfl⟩
  unfold wAtI
  have h0 : (W.drop i)[0]? = some w := by rw [h]; rfl
  rw [List.getElem?_drop] at h0
  rw [List.getD_eq_getElem?_getD, show W[i]? = some w from h0]; rfl
theorem wAt_nil {W : List Str} {i : Nat} (h : W.drop i = []) : wAtI W i = "" := by
  have hl := congrArg List.length h
  rw [List.length_drop, List.length_nil] at hl
  unfold wAtI
  rw [List.getD_eq_getElem?_getD, List.getElem?_eq_none (by omega)]; rfl
theorem drop_app {W A S : List Str} {i : Nat} (h : W.drop i = A ++ S) : W.drop (i + A.length) = S := by
  rw [← List.drop_drop, h, List.drop_left]
/-- the word that stands next is no pairing word -/
def stopW (S : List Str) : Prop := decide (S.headD "" ∈ opL4) = false
theorem stop_at {W S : List Str} {i : Nat} (h : W.drop i = S) (st : stopW S) : decide (wAtI W i ∈ opL4) = false := by
  cases S with
  | nil => rw [wAt_nil h]; exact st
  | cons w r => rw [(wAt_hd h).1]; exact st
theorem stop_par (S : List Str) : stopW (")" :: S) := by unfold stopW; show decide ((")" : Str) ∈ opL4) = false; decide +kernel
theorem stop_nil : stopW [] := by unfold stopW; decide +kernel
abbrev rdNm : List Str := ["_words", "_layers", "_line", "_at"]
def rdCs (a : Addr) (W L : List Str) (ln : Int) (i : Nat) : Cs := [(a, .ins "Reader" rdNm [.tup (W.map .str), .tup (L.map .str), .int ln, .int (i : Int)])]
def rdO (W L : List Str) (ln : Int) (i : Nat) : D := .obj "Reader" rdNm [.tup (W.map .str), .tup (L.map .str), .int ln, .int (i : Int)]
/-- the place behind m links of the chain -/
def exP (x : Ex) (m : Nat) : Nat := (exW (exA x)).length + (((exL x).take m).flatMap opW).length
theorem exP_zero (x : Ex) : exP x 0 = (exW (exA x)).length := by unfold exP; simp
theorem exP_succ {x : Ex} {m : Nat} {p : Fin 4 × Ex} (h : (exL x)[m]? = some p) : exP x (m + 1) = exP x m + 1 + (ptW p.2).length := by
  unfold exP
  rw [List.take_add_one, h, List.flatMap_append, List.length_append]
  show _ + (_ + ([p].flatMap opW).length) = _
  simp only [List.flatMap_cons, List.flatMap_nil, List.append_nil, opW, List.length_cons]; omega
theorem exP_full (x : Ex) : exP x (exL x).length = (exW x).length := by
  unfold exP
  rw [List.take_length, sp_words x, List.length_append]
theorem sp_drop {W S : List Str} {i : Nat} {x : Ex} (h : W.drop i = exW x ++ S) (m : Nat) : W.drop (i + exP x m) = ((exL x).drop m).flatMap opW ++ S := by
  rw [sp_words x] at h
  have e : (exL x).flatMap opW = ((exL x).take m).flatMap opW ++ ((exL x).drop m).flatMap opW := by rw [← List.flatMap_append, List.take_append_drop]
  rw [e, List.append_assoc, List.append_assoc, ← List.append_assoc (exW (exA x))] at h
  have h2 := drop_app h
  rw [List.length_append] at h2
  exact h2
theorem sp_next {W S : List Str} {i m : Nat} {x : Ex} (h : W.drop i = exW x ++ S) (hm : m < (exL x).length) : W.drop (i + exP x m) = opP (exL x)[m].1 :: (ptW (exL x)[m].2 ++ (((exL x).drop (m + 1)).flatMap opW ++ S)) := by
  rw [sp_drop h m, List.drop_eq_getElem_cons hm, List.flatMap_cons, List.append_assoc]; rfl
theorem sp_end {W S : List Str} {i : Nat} {x : Ex} (h : W.drop i = exW x ++ S) : W.drop (i + exP x (exL x).length) = S := by
  rw [sp_drop h, List.drop_length]; rfl
def qDf5 (c dp : Int) (k : Nat) : Df := (qNm9 c k, qEx (dr c 90) (qNs c k) 4 (7 * (k : Int) + dr c 90 88 % 50) (1 + (dr c 90 (k : Int) + dr c 90 87) % dp))
def qDfs5 (c dp : Int) (n : Nat) : List Df := (List.range n).map (qDf5 c dp)
theorem qDfs5_succ (c dp : Int) (k : Nat) : qDfs5 c dp (k + 1) = qDfs5 c dp k ++ [qDf5 c dp k] := by unfold qDfs5; rw [List.range_succ, List.map_append]; rfl
theorem qDfs5_len (c dp : Int) (k : Nat) : (qDfs5 c dp k).length = k := by unfold qDfs5; rw [List.length_map, List.length_range]
theorem qDfs5_nm (c dp : Int) (n : Nat) : (qDfs5 c dp n).map (·.1) = (List.range n).map (qNm9 c) := by unfold qDfs5; rw [List.map_map]; rfl
theorem lyN_q5 (c dp : Int) (n : Nat) : lyN (qDfs5 c dp n) = qNs c n := by unfold lyN qNs; rw [qDfs5_nm]
theorem qDfs5_at {c dp : Int} {n i : Nat} {f : Df} (h : (qDfs5 c dp n)[i]? = some f) : i < n ∧ f = qDf5 c dp i := by
  unfold qDfs5 at h
  rw [List.getElem?_map, Option.map_eq_some_iff] at h
  obtain ⟨k, hk, rfl⟩ := h
  obtain ⟨hl, e⟩ := List.getElem?_eq_some_iff.mp hk
  rw [List.length_range] at hl
  rw [List.getElem_range] at e
  exact ⟨hl, by rw [e]⟩
theorem qDfs5_take {c dp : Int} {n i : Nat} (h : i ≤ n) : (qDfs5 c dp n).take i = qDfs5 c dp i := by
  unfold qDfs5
  rw [← List.map_take, List.take_range, Nat.min_eq_left h]
theorem qDfs5_all {c dp : Int} {n : Nat} (hn : n ≤ 60) : DfAll (qDfs5 c dp n) (qDfs5 c dp n).length := fun i f hi hf => by
  obtain ⟨h1, rfl⟩ := qDfs5_at hf
  rw [qDfs5_take (by omega), lyN_q5]
  refine ⟨qNm_new (by omega), qEx_ok (fun e => ?_) (fun _ h => h) _ _ _ (by omega)⟩
  have := qNs_len c i
  rw [e] at this
  have this : 0 = 7 + i := this
  omega
/-- a deck that is written and read -/
structure DkT (F : List Df) (Q : List RuX) : Prop where
  ok : DkOk F Q
  fl : F.length ≤ 6
  ql : Q.length ≤ 6
  dp : ∀ f ∈ F, f.2.dep ≤ 5
theorem qRus_len6 (N : List Str) (c : Int) : (qRus N c 6).length ≤ 6 := by unfold qRus; rw [List.length_map, List.length_range]; omega
theorem qRus_ok6 {c : Int} {n : Nat} (hn : n ≤ 60) (c' : Int) : ∀ r ∈ qRus (qNs c n) c' 6, RuG (qNs c n) r := fun r hr => by
  unfold qRus at hr
  obtain ⟨k, _, rfl⟩ := List.mem_map.mp hr
  exact qRu_ok (qNs_nd hn) (by rw [qNs_len]; omega) (fun _ h => h) _ _
theorem q_dkT {c dp c' : Int} {n : Nat} (hn : n ≤ 6) : DkT (qDfs5 c dp n) (qRus (lyN (qDfs5 c dp n)) c' 6) := by
  have hl := qDfs5_len c dp n
  rw [lyN_q5]
  have hq := qRus_len6 (qNs c n) c'
  refine ⟨⟨⟨by omega, by omega, fun f hf => ?_, fun r hr => (qRus_ok6 (by omega) c' r hr).f⟩, by omega, by omega, qDfs5_all (by omega), fun r hr => ?_⟩, by omega, hq, fun f hf => ?_⟩
  · obtain ⟨i, hi⟩ := List.mem_iff_getElem?.mp hf
    obtain ⟨h1, rfl⟩ := qDfs5_at hi
    exact dStr_len _ (by omega)
  · rw [lyN_q5]; exact (qRus_ok6 (by omega) c' r hr).ok
  · obtain ⟨i, hi⟩ := List.mem_iff_getElem?.mp hf
    obtain ⟨h1, rfl⟩ := qDfs5_at hi
    exact qEx_dep 4 _ _
theorem lays_g : ∀ n ∈ lays, n ∉ wds9 ∧ n ≠ "(" ∧ nameB n = true := by decide +kernel
theorem name_par {n : Str} (h : nameB n = true) : n ≠ "(" := fun e => by
  rw [e] at h
  have : nameB "(" = false := by decide +kernel
  rw [this] at h; cases h
theorem DkOk.lyg {F : List Df} {Q : List RuX} (ok : DkOk F Q) (i : Nat) : LyG (lyN (F.take i)) := fun n hn => by
  unfold lyN at hn
  rcases List.mem_append.mp hn with hn | hn
  · exact lays_g n hn
  · obtain ⟨f, hf, rfl⟩ := List.mem_map.mp hn
    obtain ⟨k, hk⟩ := List.mem_iff_getElem?.mp (List.mem_of_mem_take hf)
    have hg := newB_iff.mp (ok.df k f (List.getElem?_eq_some_iff.mp hk).1 hk).n
    exact ⟨hg.2.1, name_par hg.1, hg.1⟩
theorem op_wok : (∀ o : Fin 4, WOk (opP o)) ∧ (∀ o : Fin 3, WOk (opS o)) ∧ WOk "(" ∧ WOk ")" ∧ WOk "layer" ∧ WOk "rule" := by
  refine ⟨fun o => ⟨?_, ?_, ?_⟩, fun o => ⟨?_, ?_, ?_⟩, ⟨?_, ?_, ?_⟩, ⟨?_, ?_, ?_⟩, ⟨?_, ?_, ?_⟩, ⟨?_, ?_, ?_⟩⟩ <;> first | decide +kernel | (revert o; decide +kernel)
theorem szE_rz {op : Str} {n : Int} (h : szE op n = true) : Rz n := by
  unfold szE at h
  rw [Bool.and_eq_true, decide_eq_true_iff, decide_eq_true_iff] at h
  refine ⟨?_⟩
  have : (10 : Nat) ^ 30 = 1000000000000000000000000000000 := by decide +kernel
  have h1 := h.1
  split at h1 <;> omega
theorem pt_wok {x : Ex} (h : ∀ w ∈ exW x, WOk w) : ∀ w ∈ ptW x, WOk w := fun w hw => by
  unfold ptW at hw
  split at hw
  · rcases List.mem_cons.mp hw with rfl | hw
    · exact op_wok.2.2.1
    rcases List.mem_append.mp hw with hw | hw
    · exact h w hw
    · rw [List.mem_singleton.mp hw]; exact op_wok.2.2.2.1
  · exact h w hw
theorem ex_wok {L : List Str} (hL : LyG L) : ∀ (x : Ex) {d : Nat}, okE L d x = true → ∀ w ∈ exW x, WOk w
  | _, 0, h, _, _ => by cases h
  | .lay n, d + 1, h, w, hw => by
    rw [List.mem_singleton.mp (show w ∈ [n] from hw)]
    exact name_w (hL n (of_decide_eq_true h)).2.2
  | .two o l r, d + 1, h, w, hw => by
    rw [okE_two, Bool.and_eq_true] at h
    rw [exW_two] at hw
    rcases List.mem_append.mp hw with hw | hw
    · exact ex_wok hL l h.1 w hw
    rcases List.mem_cons.mp hw with rfl | hw
    · exact op_wok.1 o
    · exact pt_wok (ex_wok hL r h.2) w hw
  | .siz o n x, d + 1, h, w, hw => by
    rw [okE_siz, Bool.and_eq_true] at h
    rw [exW_siz] at hw
    rcases List.mem_cons.mp hw with rfl | hw
    · exact op_wok.2.1 o
    rcases List.mem_cons.mp hw with rfl | hw
    · exact (szE_rz h.1).w
    · exact pt_wok (ex_wok hL x h.2) w hw
theorem pt_len {x : Ex} : (ptW x).length ≤ (exW x).length + 2 := by
  unfold ptW
  split
  · rw [List.length_cons, List.length_append]; simp
  · omega
theorem ex_len : ∀ (x : Ex), (exW x).length + 4 ≤ 5 * 2 ^ (x.dep - 1)
  | .lay n => by show 1 + 4 ≤ _; simp [Ex.dep]
  | .two o l r => by
    have h1 := ex_len l
    have h2 := ex_len r
    have h3 := pt_len (x := r)
    have pos : ∀ y : Ex, 1 ≤ y.dep := fun y => by cases y <;> (unfold Ex.dep; omega)
    have hl := pos l
    have hr := pos r
    have m1 : 2 ^ (l.dep - 1) ≤ 2 ^ (max l.dep r.dep - 1) := Nat.pow_le_pow_right (by decide) (by omega)
    have m2 : 2 ^ (r.dep - 1) ≤ 2 ^ (max l.dep r.dep - 1) := Nat.pow_le_pow_right (by decide) (by omega)
    have m3 : 2 ^ ((Ex.two o l r).dep - 1) = 2 * 2 ^ (max l.dep r.dep - 1) := by
      show 2 ^ (max l.dep r.dep + 1 - 1) = _
      rw [show max l.dep r.dep + 1 - 1 = (max l.dep r.dep - 1) + 1 by omega, Nat.pow_succ]; omega
    rw [exW_two, List.length_append, List.length_cons, m3]; omega
  | .siz o n x => by
    have h1 := ex_len x
    have h3 := pt_len (x := x)
    have hx : 1 ≤ x.dep := by cases x <;> (unfold Ex.dep; omega)
    have m3 : 2 ^ ((Ex.siz o n x).dep - 1) = 2 * 2 ^ (x.dep - 1) := by
      show 2 ^ (x.dep + 1 - 1) = _
      rw [show x.dep + 1 - 1 = (x.dep - 1) + 1 by omega, Nat.pow_succ]; omega
    rw [exW_siz, List.length_cons, List.length_cons, m3]; omega
theorem ex_len5 {x : Ex} (h : x.dep ≤ 5) : (exW x).length ≤ 76 := by
  have h1 := ex_len x
  have h2 : 2 ^ (x.dep - 1) ≤ 2 ^ 4 := Nat.pow_le_pow_right (by decide) (by omega)
  omega
theorem ex_pos (x : Ex) : 1 ≤ x.dep := by cases x <;> (unfold Ex.dep; omega)
theorem at_wA {W : List Str} {i : Nat} (h : i < W.length) : atI (W.map D.str) (i : Int) = some (.str (wAtI W i)) := by
  have h1 := at_getC (xs := W) (f := D.str) (i := (i : Int)) (a := "") ⟨by omega, by omega⟩
  rw [Int.toNat_natCast] at h1
  exact h1
theorem rd_show {K : PySem.W.Frag} {H : Hp} {a : Addr} {W L : List Str} {ln : Int} {i : Nat} (v : V) (h : ∀ x ∈ rdCs a W L ln i, DR K H x.2.d (.ref x.1)) (w : DR K H (.ad a) v) : DR K H (rdO W L ln i) v := by
  cases (show v = .ref a from w)
  exact h _ (List.mem_singleton.mpr rfl)
theorem kw_par : (∀ o : Fin 3, decide (opS o = "(") = false) ∧ (∀ o : Fin 4, decide (opP o = "(") = false) := by decide +kernel
theorem ex_head {L : List Str} (hL : LyG L) {x : Ex} {d : Nat} (h : okE L d x = true) : ∃ w r, exW (exA x) = w :: r ∧ decide (w = "(") = false := by
  have h2 := exA_ok x h
  have h3 := exA_not x
  match e : exA x, h2, h3 with
  | .lay n, h2, _ =>
    cases d with
    | zero => cases h2
    | succ d => exact ⟨n, [], rfl, decide_eq_false (hL n (of_decide_eq_true h2)).2.1⟩
  | .siz o n y, _, _ => exact ⟨_, _, rfl, kw_par.1 o⟩
  | .two o l r, _, h3 => cases h3
theorem okE_room {L : List Str} {d : Nat} {x : Ex} (h : okE L d x = true) : 1 ≤ d := by
  cases d with
  | zero => cases h
  | succ d => omega
theorem lay_lem {L : List Str} (hL : LyG L) {n : Str} {d : Nat} (h : okE L d (.lay n) = true) : decide (n = "(") = false ∧ decide (n ∈ opL3) = false ∧ decide (n ∈ L) = true := by
  cases d with
  | zero => cases h
  | succ d =>
    have hm : n ∈ L := of_decide_eq_true h
    exact ⟨decide_eq_false (hL n hm).2.1, decide_eq_false fun z => (hL n hm).1 (opL_sub.2 n z), h⟩
theorem siz_lem {L : List Str} {o : Fin 3} {n : Int} {y : Ex} {d : Nat} (h : okE L d (.siz o n y) = true) : szE (opS o) n = true ∧ okE L (d - 1) y = true := by
  cases d with
  | zero => cases h
  | succ d => rw [okE_siz, Bool.and_eq_true] at h; exact h
theorem two_lem {L : List Str} {o : Fin 4} {l r : Ex} {d : Nat} (h : okE L d (.two o l r) = true) : okE L (d - 1) l = true ∧ okE L (d - 1) r = true := by
  cases d with
  | zero => cases h
  | succ d => rw [okE_two, Bool.and_eq_true] at h; exact h
def hdW : Ex → Str
  | .lay _ => "layer"
  | .two o _ _ => opP o
  | .siz o _ _ => opS o
def tlW : Ex → List D
  | .lay n => [.str n]
  | .two _ l r => [l.e, r.e]
  | .siz _ n y => [.int n, y.e]
theorem ex_hd (x : Ex) : x.e = .tup (.str (hdW x) :: tlW x) := by cases x <;> rfl
theorem ex_inP (x : Ex) : decide (hdW x ∈ opL4) = x.isT := by
  cases x with
  | lay n => exact lay_notP
  | two o l r => exact opP_in o
  | siz o n y => exact opS_notP o
theorem exL_pos {x : Ex} (h : x.isT = true) : 1 ≤ (exL x).length := by
  cases x with
  | two o l r => show 1 ≤ (exL l ++ [(o, r)]).length; rw [List.length_append, List.length_cons, List.length_nil]; omega
  | lay n => cases h
  | siz o n y => cases h
def wxE : Str ⊕ Int → D
  | .inl x => .str x
  | .inr i => .int i
def wxT : Str ⊕ Int → Str
  | .inl x => x
  | .inr i => stI i
theorem join_hd9 (a x : Str) (r : List Str) : x.length ≤ (Str.join a (x :: r)).length := by
  cases r with
  | nil => exact Nat.le_refl _
  | cons y r => show x.length ≤ (x ++ a ++ Str.join a (y :: r)).length; rw [app_len, app_len]; omega
def dfX (f : Df) : List (Str ⊕ Int) := .inl "layer" :: .inl f.1 :: (exW f.2).map .inl
def ruX9 (r : RuX) : List (Str ⊕ Int) := .inl "rule" :: .inl r.1 :: (r.2.1.map .inl ++ r.2.2.map .inr)
def dkX (F : List Df) (Q : List RuX) : List (List (Str ⊕ Int)) := F.map dfX ++ Q.map ruX9
def dfW (f : Df) : List Str := "layer" :: f.1 :: exW f.2
def ruW (r : RuX) : List Str := "rule" :: r.1 :: (r.2.1 ++ r.2.2.map stI)
def dkW (F : List Df) (Q : List RuX) : List (List Str) := F.map dfW ++ Q.map ruW
theorem dfX_w (f : Df) : (dfX f).map wxT = dfW f := by
  unfold dfX dfW
  rw [List.map_cons, List.map_cons, List.map_map, show (wxT ∘ Sum.inl) = (id : Str → Str) from rfl, List.map_id]; rfl
theorem ruX_w (r : RuX) : (ruX9 r).map wxT = ruW r := by
  unfold ruX9 ruW
  rw [List.map_cons, List.map_cons, List.map_append, List.map_map, List.map_map, show (wxT ∘ Sum.inl) = (id : Str → Str) from rfl, List.map_id]; rfl
theorem dkX_w (F : List Df) (Q : List RuX) : (dkX F Q).map (fun l => l.map wxT) = dkW F Q := by
  unfold dkX dkW
  rw [List.map_append, List.map_map, List.map_map]
  congr 1
  · exact List.map_congr_left fun f _ => dfX_w f
  · exact List.map_congr_left fun r _ => ruX_w r
structure WsD (ws : List Str) : Prop where
  ne : ws ≠ []
  few : ws.length ≤ 80
  ok : ∀ w ∈ ws, WOk w
theorem WsD.room {ws : List Str} (h : WsD ws) : sumL ws + ws.length * (" " : Str).length ≤ 3360 := by
  have h1 := sumL_le (k := 41) (zs := ws) fun w hw => (h.ok w hw).n
  have := lens.2.2.2.1
  rw [this]
  have h2 : 41 * ws.length ≤ 41 * 80 := Nat.mul_le_mul_left _ h.few
  have := h.few
  omega
theorem WsD.len {ws : List Str} (h : WsD ws) : (lnW ws).length ≤ 3360 := Nat.le_trans (join_len _ _) h.room
theorem DkT.dfw {F : List Df} {Q : List RuX} (t : DkT F Q) {i : Nat} {f : Df} (hf : F[i]? = some f) : WsD (dfW f) := by
  have hm := List.mem_of_getElem? hf
  have hg := t.ok.df i f (List.getElem?_eq_some_iff.mp hf).1 hf
  refine ⟨by unfold dfW; simp, by have := ex_len5 (t.dp f hm); unfold dfW; simp only [List.length_cons]; omega, fun w hw => ?_⟩
  unfold dfW at hw
  rcases List.mem_cons.mp hw with rfl | hw
  · exact op_wok.2.2.2.2.1
  rcases List.mem_cons.mp hw with rfl | hw
  · exact name_w (newB_iff.mp hg.n).1
  · exact ex_wok (t.ok.lyg i) f.2 hg.e w hw
theorem okRL_parts {L : List Str} {k : Str} {ls : List Str} {ns : List Int} (h : okRL L k ls ns = true) : (∀ l ∈ ls, l ∈ L) ∧ ∀ n ∈ ns, Rz n := by
  unfold okRL at h
  rw [Bool.and_eq_true, Bool.and_eq_true, List.all_eq_true, List.all_eq_true] at h
  refine ⟨fun l hl => of_decide_eq_true (h.1 l hl), fun n hn => ?_⟩
  have := h.2.2 n hn
  rw [Bool.and_eq_true, decide_eq_true_iff, decide_eq_true_iff] at this
  refine ⟨?_⟩
  have e : (10 : Nat) ^ 30 = 1000000000000000000000000000000 := by decide +kernel
  have h1 : 0 ≤ least k := by unfold least; split <;> omega
  omega
theorem form_w {k : Str} {a b : Nat} (h : Form k a b) : WOk k := by
  have : ∀ x ∈ kinD, nameB x = true := by decide +kernel
  cases h <;> exact name_w (this _ (by decide +kernel))
theorem DkT.ruw {F : List Df} {Q : List RuX} (t : DkT F Q) {r : RuX} (hr : r ∈ Q) : WsD (ruW r) := by
  have hf := t.ok.s.fm r hr
  have hl := form_len hf
  obtain ⟨p1, p2⟩ := okRL_parts (t.ok.ru r hr)
  have hg := t.ok.lyg F.length
  rw [List.take_length] at hg
  refine ⟨by unfold ruW; simp, by unfold ruW; simp only [List.length_cons, List.length_append, List.length_map]; omega, fun w hw => ?_⟩
  unfold ruW at hw
  rcases List.mem_cons.mp hw with rfl | hw
  · exact op_wok.2.2.2.2.2
  rcases List.mem_cons.mp hw with rfl | hw
  · exact form_w hf
  rcases List.mem_append.mp hw with hw | hw
  · exact name_w (hg w (p1 w hw)).2.2
  · obtain ⟨n, hn, rfl⟩ := List.mem_map.mp hw
    exact (p2 n hn).w
theorem DkT.ws {F : List Df} {Q : List RuX} (t : DkT F Q) : ∀ ws ∈ dkW F Q, WsD ws := fun ws hw => by
  unfold dkW at hw
  rcases List.mem_append.mp hw with hw | hw
  · obtain ⟨f, hf, rfl⟩ := List.mem_map.mp hw
    obtain ⟨i, hi⟩ := List.mem_iff_getElem?.mp hf
    exact t.dfw hi
  · obtain ⟨r, hr, rfl⟩ := List.mem_map.mp hw
    exact t.ruw hr
def txD (W : List (List Str)) : Str := Str.join "\n" (W.map lnW)
theorem dkW_len (F : List Df) (Q : List RuX) : (dkW F Q).length = F.length + Q.length := by unfold dkW; rw [List.length_append, List.length_map, List.length_map]
theorem txD_room {W : List (List Str)} (h : ∀ ws ∈ W, WsD ws) (hl : W.length ≤ 100) : sumL (W.map lnW) + (W.map lnW).length * ("\n" : Str).length ≤ 700000 := by
  have h1 := sumL_le (k := 3360) (zs := W.map lnW) fun z hz => by
    obtain ⟨ws, hw, rfl⟩ := List.mem_map.mp hz
    exact (h ws hw).len
  rw [List.length_map] at h1 ⊢
  have := lens.2.2.2.2.2
  rw [this]
  have : 3360 * W.length ≤ 3360 * 100 := Nat.mul_le_mul_left _ hl
  omega
theorem txD_len {W : List (List Str)} (h : ∀ ws ∈ W, WsD ws) (hl : W.length ≤ 100) : (txD W).length ≤ 700000 := Nat.le_trans (join_len _ _) (txD_room h hl)
theorem txD_split {W : List (List Str)} (hne : W ≠ []) (h : ∀ ws ∈ W, WsD ws) : Txt.split (txD W) "\n" = W.map lnW := by
  unfold txD
  rw [← TL.join_eq]
  refine TL.split_join sep_tl.2 (by decide +kernel) (by simpa using hne) fun p hp => ?_
  obtain ⟨ws, hw, rfl⟩ := List.mem_map.mp hp
  exact ln_free (h ws hw).ok
theorem dk_pos {F : List Df} {Q : List RuX} : ∀ ws ∈ dkW F Q, 0 < (lnW ws).length := fun ws hw => by
  have h0 : ∀ (a : Str) (r : List Str), 0 < a.length → 0 < (lnW (a :: r)).length := fun a r h => by
    have := join_hd9 " " a r
    unfold lnW; omega
  unfold dkW at hw
  rcases List.mem_append.mp hw with hw | hw
  · obtain ⟨f, hf, rfl⟩ := List.mem_map.mp hw
    exact h0 "layer" _ (by decide +kernel)
  · obtain ⟨r, hr, rfl⟩ := List.mem_map.mp hw
    exact h0 "rule" _ (by decide +kernel)
theorem txD_ne {W : List (List Str)} (h : W ≠ []) (hp : ∀ ws ∈ W, 0 < (lnW ws).length) : txD W ≠ "" := fun e => by
  cases W with
  | nil => exact h rfl
  | cons a r =>
    unfold txD at e
    rw [List.map_cons] at e
    have h1 := join_hd9 "\n" (lnW a) (r.map lnW)
    rw [e] at h1
    have h2 := hp a List.mem_cons_self
    have : ("" : Str).length = 0 := by decide +kernel
    omega
theorem txD_if {F : List Df} {Q : List RuX} (t : DkT F Q) : (if (!decide (txD (dkW F Q) = ("" : Str))) = true then D.lst ((Txt.split (txD (dkW F Q)) "\n").map .str) else D.lst []) = D.lst (((dkW F Q).map lnW).map .str) := by
  by_cases h : dkW F Q = []
  · have e : txD (dkW F Q) = "" := by rw [h]; decide +kernel
    rw [decide_eq_true e, h]; rfl
  · rw [decide_eq_false (txD_ne h dk_pos), txD_split h t.ws]; rfl
theorem txD_enum (W : List (List Str)) : enumK 1 ((W.map lnW).map .str) = (List.range W.length).map fun (i : Nat) => D.tup [.int (((1 : Nat) : Int) + (i : Int)), .str (lnW (W.getD i []))] := by
  refine List.ext_getElem? fun i => ?_
  by_cases h : i < W.length
  · unfold enumK
    rw [List.getElem?_zipWith, List.length_map, List.length_map, List.getElem?_range h, List.getElem?_map, List.getElem?_map, List.getElem?_map, List.getElem?_range h, List.getElem?_eq_getElem h]
    have e : W.getD i [] = W[i] := by rw [List.getD_eq_getElem?_getD, List.getElem?_eq_getElem h]; rfl
    show some (D.tup [D.int (((1 : Nat) : Int) + (i : Int)), .str (lnW (W[i]))]) = some (D.tup [D.int (((1 : Nat) : Int) + (i : Int)), .str (lnW (W.getD i []))])
    rw [e]
  · rw [List.getElem?_eq_none (by rw [enumK_len, List.length_map, List.length_map]; omega), List.getElem?_eq_none (by rw [List.length_map, List.length_range]; omega)]
/-- line i -/
theorem dkW_at {F : List Df} {Q : List RuX} {i : Nat} (h : i < (dkW F Q).length) : (∃ f, F[i]? = some f ∧ (dkW F Q).getD i [] = dfW f) ∨ (F.length ≤ i ∧ ∃ r, Q[i - F.length]? = some r ∧ (dkW F Q).getD i [] = ruW r) := by
  rw [dkW_len] at h
  by_cases q : i < F.length
  · left
    refine ⟨F[i], List.getElem?_eq_getElem q, ?_⟩
    unfold dkW
    rw [List.getD_eq_getElem?_getD, List.getElem?_append_left (by rw [List.length_map]; exact q), List.getElem?_map, List.getElem?_eq_getElem q]; rfl
  · right
    refine ⟨by omega, Q[i - F.length]'(by omega), List.getElem?_eq_getElem (by omega), ?_⟩
    unfold dkW
    rw [List.getD_eq_getElem?_getD, List.getElem?_append_right (by rw [List.length_map]; omega), List.length_map, List.getElem?_map, List.getElem?_eq_getElem (by omega)]; rfl
def dkD (F : List Df) (Q : List RuX) : D := .obj "Deck" ["definitions", "rules"] [.tup (F.map Df.e), .tup (Q.map ruX)]
end DL
namespace DL
open PySem PySem.Spec PyProof.Rows L2
def ncT : List (Str × D) := [("width", .int 1), ("space", .int 1), ("apart", .int 1), ("cover", .int 1), ("area", .int 1), ("size", .int 2), ("never", .int 0)]
theorem nc_mem {k : Str} {a b : Nat} (h : Form k a b) : (k, D.int (b : Int)) ∈ ncT := by
  cases h
  · exact List.mem_cons_self
  · exact List.mem_cons_of_mem _ List.mem_cons_self
  · exact List.mem_cons_of_mem _ (List.mem_cons_of_mem _ (List.mem_cons_of_mem _ (List.mem_cons_of_mem _ List.mem_cons_self)))
  · exact List.mem_cons_of_mem _ (List.mem_cons_of_mem _ List.mem_cons_self)
  · exact List.mem_cons_of_mem _ (List.mem_cons_of_mem _ (List.mem_cons_of_mem _ List.mem_cons_self))
  · exact List.mem_cons_of_mem _ (List.mem_cons_of_mem _ (List.mem_cons_of_mem _ (List.mem_cons_of_mem _ (List.mem_cons_of_mem _ List.mem_cons_self))))
  · exact List.mem_cons_of_mem _ (List.mem_cons_of_mem _ (List.mem_cons_of_mem _ (List.mem_cons_of_mem _ (List.mem_cons_of_mem _ (List.mem_cons_of_mem _ List.mem_cons_self)))))
def ruT (r : RuX) : List Str := r.1 :: (r.2.1 ++ r.2.2.map stI)
theorem ruT_ns (r : RuX) : cutD ((ruT r).map D.str) (some (1 + (r.2.1.length : Int))) none = r.2.2.map fun i => D.str (stI i) := by
  rw [cutDrop _ (by omega)]
  unfold ruT
  rw [show ((1 : Int) + (r.2.1.length : Int)).toNat = r.2.1.length + 1 by omega, List.map_cons, List.drop_succ_cons, List.map_append, ← List.length_map (f := D.str) (as := r.2.1), List.drop_left, List.map_map]; rfl
theorem ruT_ls (r : RuX) : cutD ((ruT r).map D.str) none (some (1 + (r.2.1.length : Int))) = D.str r.1 :: r.2.1.map D.str := by
  rw [cutTk _ (by omega)]
  unfold ruT
  rw [show ((1 : Int) + (r.2.1.length : Int)).toNat = r.2.1.length + 1 by omega, List.map_cons, List.take_succ_cons, List.map_append, ← List.length_map (f := D.str) (as := r.2.1), List.take_left]
theorem df_noL (f : Df) : noL f.e = true := by
  show (true && (noL f.2.e && true)) = true
  rw [noL_md (ex_md f.2 (Nat.le_refl _))]; rfl
theorem ruX_noL {r : RuX} (h : Form r.1 r.2.1.length r.2.2.length) : noL (ruX r) = true := noL_md (ru_md h)
theorem DkT.df {F : List Df} {Q : List RuX} (t : DkT F Q) {f : Df} (h : f ∈ F) : ∃ L, LyG L ∧ okE L 12 f.2 = true ∧ f.2.dep ≤ 5 ∧ newB L f.1 = true ∧ WsD (dfW f) := by
  obtain ⟨i, hi⟩ := List.mem_iff_getElem?.mp h
  have hg := t.ok.df i f (List.getElem?_eq_some_iff.mp hi).1 hi
  exact ⟨_, t.ok.lyg i, hg.e, t.dp f h, hg.n, t.dfw hi⟩
theorem dkX_ws {F : List Df} {Q : List RuX} (t : DkT F Q) {l : List (Str ⊕ Int)} (h : l ∈ dkX F Q) : WsD (l.map wxT) := t.ws _ (by rw [← dkX_w]; exact List.mem_map.mpr ⟨l, h, rfl⟩)
theorem dkX_rz {F : List Df} {Q : List RuX} (t : DkT F Q) {l : List (Str ⊕ Int)} (h : l ∈ dkX F Q) {y : Int} (hy : Sum.inr y ∈ l) : Rz y := by
  unfold dkX at h
  rcases List.mem_append.mp h with h | h
  · obtain ⟨f, _, rfl⟩ := List.mem_map.mp h
    unfold dfX at hy
    simp at hy
  · obtain ⟨r, hr, rfl⟩ := List.mem_map.mp h
    unfold ruX9 at hy
    simp at hy
    exact (okRL_parts (t.ok.ru r hr)).2 y hy
theorem txD_join (F : List Df) (Q : List RuX) : Str.join "\n" ((dkX F Q).map fun l => lnW (l.map wxT)) = txD (dkW F Q) := by
  unfold txD
  rw [← dkX_w, List.map_map]; rfl
theorem last_app {α : Type} (g : α → D) (xs : List α) (y : α) : atI (xs.map g ++ [g y]) (-1) = some (g y) := by
  unfold atI
  rw [show ixN (xs.map g ++ [g y]).length (-1) = some xs.length by rw [List.length_append, List.length_map]; unfold ixN; rw [if_neg (by omega), if_pos (by simp; omega)]; congr 1; simp; omega]
  show (xs.map g ++ [g y])[xs.length]? = _
  rw [List.getElem?_append_right (by rw [List.length_map]; exact Nat.le_refl _), List.length_map, Nat.sub_self]; rfl
theorem ru_md6 {r : RuX} (h : Form r.1 r.2.1.length r.2.2.length) : MD 6 (ruX r) := by
  have hl := form_len h
  refine md_tup (k := 5) (by unfold rDs; simp; omega) fun e he => ?_
  unfold rDs at he
  simp only [List.mem_cons, List.mem_append, List.mem_map] at he
  rcases he with rfl | ⟨x, _, rfl⟩ | ⟨x, _, rfl⟩
  · exact md_str
  · exact md_str
  · exact md_int
theorem DkT.mdF {F : List Df} {Q : List RuX} (t : DkT F Q) : ∀ d ∈ F.map Df.e, MD 6 d := fun d hd => by
  obtain ⟨f, hf, rfl⟩ := List.mem_map.mp hd
  exact md_tup (by simp) (md_cons md_str (md_cons (ex_md f.2 (t.dp f hf)) md_nil))
theorem DkT.mdQ {F : List Df} {Q : List RuX} (t : DkT F Q) : ∀ d ∈ Q.map ruX, MD 6 d := fun d hd => by
  obtain ⟨r, hr, rfl⟩ := List.mem_map.mp hd
  exact ru_md6 (t.ok.s.fm r hr)
end DL
namespace DL
open PySem PySem.Spec PyProof.Rows L2
local macro_rules | `(tactic| walk_at "side") => `(tactic| first | assumption | decide | omega | (simp only [List.length_map, List.length_append, List.length_cons, List.length_nil, sizeLine_eq] at *; omega))
local macro_rules | `(tactic| walk_at "len") => `(tactic| first | decide | (simp [sizeLine_eq]; done) | (simp [sizeLine_eq]; omega))
local macro_rules | `(tactic| walk_at "b2") => `(tactic| first
  | exact b2_add | exact b2_sub | exact b2_mod (by decide) | exact b2_fdiv ⟨by decide, by decide⟩
  | exact b2_mul (by first | exact Or.inr ⟨by decide, by decide⟩ | exact Or.inl ⟨by decide, by decide⟩ | exact Or.inr ⟨by omega, by omega⟩ | exact Or.inl ⟨by omega, by omega⟩)
  | exact b2_mod (by first | assumption | omega) | exact b2_fdiv ⟨by omega, by omega⟩ | exact b2_addS (by walk_at "side"))
local macro_rules | `(tactic| walk_at "c2") => `(tactic| first
  | exact c2_lt | exact c2_le | exact c2_gt | exact c2_ge | exact c2_eqI | exact c2_neI | exact c2_isN | exact c2_notN | exact c2_isB | exact c2_notB | exact c2_eqB | exact c2_neB | exact c2_eqS | exact c2_neS | exact c2_leS | exact c2_inInts | exact c2_eq2 (by assumption) | exact c2_eq4 (by assumption) | exact c2_ne2 (by assumption) | exact c2_ne4 (by assumption) | exact c2_eqInts (by assumption) | exact c2_neInts (by assumption) | exact c2_eqIntsL (by assumption) | exact c2_inSq (by assumption) | exact c2_notInSq (by assumption) | exact c2_eqBx (by assumption) | exact c2_neBx (by assumption))
local macro_rules | `(tactic| walk_at "ix") => `(tactic| first | exact IX.t0 | exact IX.t1 | exact IX.t2 | exact IX.t3 | exact IX.t4 | exact IX.t5 | exact IX.l0 | exact IX.l1 | exact IX.l2 | exact IX.l (at_draws (by first | decide | omega) (by first | decide | omega)) | exact ix_sel3 ⟨by omega, by omega⟩ | exact IX.l rfl)
local macro_rules | `(tactic| walk_at "bc") => `(tactic| first | exact bc_int | exact bc_lenL | exact bc_lenT | exact bc_tupL | exact bc_tupT | exact bc_min2 rfl | exact bc_max2 rfl)
local macro_rules | `(tactic| walk_at "bo") => `(tactic| first | exact bo_listL | exact bo_listT)
local macro_rules | `(tactic| walk_at "mk") => `(tactic| first | exact .mk _ | exact .mk _ _ | exact .mk _ _ _ | exact .mk _ _ _ _ | exact .mk _ _ _ _ _ | exact .mk _ _ _ _ _ _ | exact .mk _ _ _ _ _ _ _ | exact .mk _ _ _ _ _ _ _ _ | exact .mk)
local macro_rules | `(tactic| walk_at "kd") => `(tactic| first | exact kd_int | exact kd_bl | exact kd_str | (refine' kd_tup ?l ?c ?e ?z ?r; (case l => k_is); (case c => rfl); (case e => rfl); (case z => decide); (case r => walk_at "kds")))
local macro_rules | `(tactic| walk_at "kds") => `(tactic| first | exact kds_nil | (refine' kds_cons ?a ?b; (case a => walk_at "kd"); (case b => walk_at "kds")))
local macro_rules | `(tactic| walk_at "en") => `(tactic| simp only [en, enI, enL, List.map_cons, List.map_nil, List.length_cons, List.length_nil, List.cons_append, List.nil_append, List.replicate, Nat.add_one_sub_one, Nat.reduceAdd, Nat.reduceSub])
local macro_rules | `(tactic| walk_at "env") => `(tactic| simp only [upds, List.foldl_cons, List.foldl_nil, OC.d, List.set_cons_zero, List.set_cons_succ])
inductive R_is_name : List D → D → Prop where
  | mk (x : Str) (h : x.length ≤ sizeLine) : R_is_name [.str x] (.bl (nameB x))
inductive R_rule_layers : List D → D → Prop where
  | mk (k : Str) (ls : List Str) (ns : List Int) (f : Form k ls.length ns.length) : R_rule_layers [.tup (rDs k ls ns)] (.tup (ls.map .str))
inductive R_rule_numbers : List D → D → Prop where
  | mk (k : Str) (ls : List Str) (ns : List Int) (f : Form k ls.length ns.length) : R_rule_numbers [.tup (rDs k ls ns)] (.tup (ns.map .int))
inductive R_is_rule_over : List D → D → Prop where
  | mk (L : List Str) (k : Str) (ls : List Str) (ns : List Int) (f : Form k ls.length ns.length) : R_is_rule_over [.lst (L.map .str), .tup (rDs k ls ns)] (.bl (okRL L k ls ns))
inductive R_parts_of : List D → D → Prop where
  | mk (x : Ex) : R_parts_of [x.e] (.tup (x.parts.map Ex.e))
inductive R_is_size : List D → D → Prop where
  | mk (o : Str) (n : Int) : R_is_size [.str o, .int n] (.bl (szE o n))
inductive R_is_expression_over_z0 : List D → D → Prop where
  | mk (L : List Str) (x : Ex) (d : Int) (hd : d ≤ 0) : R_is_expression_over_z0 [.lst (L.map .str), x.e, .int d] (.bl (okE L d.toNat x))
inductive R_is_expression_over_z1 : List D → D → Prop where
  | mk (L : List Str) (x : Ex) (d : Int) (hd : d ≤ 1) : R_is_expression_over_z1 [.lst (L.map .str), x.e, .int d] (.bl (okE L d.toNat x))
inductive R_is_expression_over_z2 : List D → D → Prop where
  | mk (L : List Str) (x : Ex) (d : Int) (hd : d ≤ 2) : R_is_expression_over_z2 [.lst (L.map .str), x.e, .int d] (.bl (okE L d.toNat x))
inductive R_is_expression_over_z3 : List D → D → Prop where
  | mk (L : List Str) (x : Ex) (d : Int) (hd : d ≤ 3) : R_is_expression_over_z3 [.lst (L.map .str), x.e, .int d] (.bl (okE L d.toNat x))
inductive R_is_expression_over_z4 : List D → D → Prop where
  | mk (L : List Str) (x : Ex) (d : Int) (hd : d ≤ 4) : R_is_expression_over_z4 [.lst (L.map .str), x.e, .int d] (.bl (okE L d.toNat x))
inductive R_is_expression_over_z5 : List D → D → Prop where
  | mk (L : List Str) (x : Ex) (d : Int) (hd : d ≤ 5) : R_is_expression_over_z5 [.lst (L.map .str), x.e, .int d] (.bl (okE L d.toNat x))
inductive R_is_expression_over_z6 : List D → D → Prop where
  | mk (L : List Str) (x : Ex) (d : Int) (hd : d ≤ 6) : R_is_expression_over_z6 [.lst (L.map .str), x.e, .int d] (.bl (okE L d.toNat x))
inductive R_is_expression_over_z7 : List D → D → Prop where
  | mk (L : List Str) (x : Ex) (d : Int) (hd : d ≤ 7) : R_is_expression_over_z7 [.lst (L.map .str), x.e, .int d] (.bl (okE L d.toNat x))
inductive R_is_expression_over_z8 : List D → D → Prop where
  | mk (L : List Str) (x : Ex) (d : Int) (hd : d ≤ 8) : R_is_expression_over_z8 [.lst (L.map .str), x.e, .int d] (.bl (okE L d.toNat x))
inductive R_is_expression_over_z9 : List D → D → Prop where
  | mk (L : List Str) (x : Ex) (d : Int) (hd : d ≤ 9) : R_is_expression_over_z9 [.lst (L.map .str), x.e, .int d] (.bl (okE L d.toNat x))
inductive R_is_expression_over_z10 : List D → D → Prop where
  | mk (L : List Str) (x : Ex) (d : Int) (hd : d ≤ 10) : R_is_expression_over_z10 [.lst (L.map .str), x.e, .int d] (.bl (okE L d.toNat x))
inductive R_is_expression_over_z11 : List D → D → Prop where
  | mk (L : List Str) (x : Ex) (d : Int) (hd : d ≤ 11) : R_is_expression_over_z11 [.lst (L.map .str), x.e, .int d] (.bl (okE L d.toNat x))
inductive R_is_expression_over_z12 : List D → D → Prop where
  | mk (L : List Str) (x : Ex) (d : Int) (hd : d ≤ 12) : R_is_expression_over_z12 [.lst (L.map .str), x.e, .int d] (.bl (okE L d.toNat x))
inductive R_is_new_layer : List D → D → Prop where
  | mk (L : List Str) (n : Str) (h : n.length ≤ sizeLine) : R_is_new_layer [.lst (L.map .str), .str n] (.bl (newB L n))
inductive R_Deck_init : List D → List Str → List D → Prop where
  | mk (F : List Df) (Q : List RuX) (ok : DkOk F Q) : R_Deck_init [.lst (F.map Df.e), .lst (Q.map ruX)] ["definitions", "rules"] [.tup (F.map Df.e), .tup (Q.map ruX)]
inductive R_is_integer : List D → D → Prop where
  | mk (i : Int) (h : Rz i) : R_is_integer [.str (stI i)] (.bl true)
inductive R_read_integers : List D → D → Prop where
  | mk (ns : List Int) (h : ∀ i ∈ ns, Rz i) (hl : ns.length ≤ 100) : R_read_integers [.lst (ns.map fun i => .str (stI i))] (.tup (ns.map .int))
inductive R_expression_words_e1 : List D → D → Prop where
  | mk (L : List Str) (d : Nat) (x : Ex) (hx : okE L d x = true) (hd : x.dep ≤ 1) : R_expression_words_e1 [x.e] (.lst ((exW x).map .str))
inductive R_expression_words_e2 : List D → D → Prop where
  | mk (L : List Str) (d : Nat) (x : Ex) (hx : okE L d x = true) (hd : x.dep ≤ 2) : R_expression_words_e2 [x.e] (.lst ((exW x).map .str))
inductive R_expression_words_e3 : List D → D → Prop where
  | mk (L : List Str) (d : Nat) (x : Ex) (hx : okE L d x = true) (hd : x.dep ≤ 3) : R_expression_words_e3 [x.e] (.lst ((exW x).map .str))
inductive R_expression_words_e4 : List D → D → Prop where
  | mk (L : List Str) (d : Nat) (x : Ex) (hx : okE L d x = true) (hd : x.dep ≤ 4) : R_expression_words_e4 [x.e] (.lst ((exW x).map .str))
inductive R_expression_words_e5 : List D → D → Prop where
  | mk (L : List Str) (d : Nat) (x : Ex) (hx : okE L d x = true) (hd : x.dep ≤ 5) : R_expression_words_e5 [x.e] (.lst ((exW x).map .str))
inductive R_part_words_e1 : List D → D → Prop where
  | mk (L : List Str) (d : Nat) (x : Ex) (hx : okE L d x = true) (hd : x.dep ≤ 1) : R_part_words_e1 [x.e] (.lst ((ptW x).map .str))
inductive R_part_words_e2 : List D → D → Prop where
  | mk (L : List Str) (d : Nat) (x : Ex) (hx : okE L d x = true) (hd : x.dep ≤ 2) : R_part_words_e2 [x.e] (.lst ((ptW x).map .str))
inductive R_part_words_e3 : List D → D → Prop where
  | mk (L : List Str) (d : Nat) (x : Ex) (hx : okE L d x = true) (hd : x.dep ≤ 3) : R_part_words_e3 [x.e] (.lst ((ptW x).map .str))
inductive R_part_words_e4 : List D → D → Prop where
  | mk (L : List Str) (d : Nat) (x : Ex) (hx : okE L d x = true) (hd : x.dep ≤ 4) : R_part_words_e4 [x.e] (.lst ((ptW x).map .str))
inductive R_part_words_e5 : List D → D → Prop where
  | mk (L : List Str) (d : Nat) (x : Ex) (hx : okE L d x = true) (hd : x.dep ≤ 5) : R_part_words_e5 [x.e] (.lst ((ptW x).map .str))
inductive R_format_deck : List D → D → Prop where
  | mk (F : List Df) (Q : List RuX) (t : DkT F Q) : R_format_deck [dkD F Q] (.str (txD (dkW F Q)))
inductive R_Reader_init : Addr → List D → (Cs → Prop) → Prop where
  | mk (a : Addr) (W L : List Str) (ln : Int) : R_Reader_init a [.lst (W.map .str), .lst (L.map .str), .int ln] (fun cs => cs = rdCs a W L ln 0)
inductive R_Reader_read_all : Addr → Cs → List D → (Cs → D → Prop) → Prop where
  | mk (a : Addr) (W L : List Str) (ln : Int) (x : Ex) (hW : W = exW x) (hL : LyG L) (hx : okE L 12 x = true) (hd : x.dep ≤ 5) : R_Reader_read_all a (rdCs a W L ln 0) [] (fun cs d => d = x.e)
inductive R_Reader_next_word : List D → D → Prop where
  | mk (W L : List Str) (ln : Int) (i : Nat) : R_Reader_next_word [rdO W L ln i] (.str (wAtI W i))
inductive R_Reader_read_word : Addr → Cs → List D → (Cs → D → Prop) → Prop where
  | mk (a : Addr) (W L : List Str) (ln : Int) (i : Nat) : R_Reader_read_word a (rdCs a W L ln i) [] (fun cs d => cs = rdCs a W L ln (i + 1) ∧ d = .str (wAtI W i))
inductive R_Reader_chain_p2 : Addr → Cs → List D → (Cs → D → Prop) → Prop where
  | mk (a : Addr) (W L : List Str) (ln : Int) (i : Nat) (x : Ex) (S : List Str) (room : Nat) (hW : W.drop i = exW x ++ S) (st : stopW S) (hL : LyG L) (hx : okE L room x = true) (hA : (exA x).dep ≤ 1) (hP : ∀ p ∈ exL x, p.2.dep ≤ 1) : R_Reader_chain_p2 a (rdCs a W L ln i) [.int (room : Int)] (fun cs d => cs = rdCs a W L ln (i + (exW x).length) ∧ d = .tup [x.e, .int (x.dep : Int)])
inductive R_Reader_chain_p3 : Addr → Cs → List D → (Cs → D → Prop) → Prop where
  | mk (a : Addr) (W L : List Str) (ln : Int) (i : Nat) (x : Ex) (S : List Str) (room : Nat) (hW : W.drop i = exW x ++ S) (st : stopW S) (hL : LyG L) (hx : okE L room x = true) (hA : (exA x).dep ≤ 2) (hP : ∀ p ∈ exL x, p.2.dep ≤ 2) : R_Reader_chain_p3 a (rdCs a W L ln i) [.int (room : Int)] (fun cs d => cs = rdCs a W L ln (i + (exW x).length) ∧ d = .tup [x.e, .int (x.dep : Int)])
inductive R_Reader_chain_p4 : Addr → Cs → List D → (Cs → D → Prop) → Prop where
  | mk (a : Addr) (W L : List Str) (ln : Int) (i : Nat) (x : Ex) (S : List Str) (room : Nat) (hW : W.drop i = exW x ++ S) (st : stopW S) (hL : LyG L) (hx : okE L room x = true) (hA : (exA x).dep ≤ 3) (hP : ∀ p ∈ exL x, p.2.dep ≤ 3) : R_Reader_chain_p4 a (rdCs a W L ln i) [.int (room : Int)] (fun cs d => cs = rdCs a W L ln (i + (exW x).length) ∧ d = .tup [x.e, .int (x.dep : Int)])
inductive R_Reader_chain_p5 : Addr → Cs → List D → (Cs → D → Prop) → Prop where
  | mk (a : Addr) (W L : List Str) (ln : Int) (i : Nat) (x : Ex) (S : List Str) (room : Nat) (hW : W.drop i = exW x ++ S) (st : stopW S) (hL : LyG L) (hx : okE L room x = true) (hA : (exA x).dep ≤ 4) (hP : ∀ p ∈ exL x, p.2.dep ≤ 4) : R_Reader_chain_p5 a (rdCs a W L ln i) [.int (room : Int)] (fun cs d => cs = rdCs a W L ln (i + (exW x).length) ∧ d = .tup [x.e, .int (x.dep : Int)])
inductive R_Reader_chain_p6 : Addr → Cs → List D → (Cs → D → Prop) → Prop where
  | mk (a : Addr) (W L : List Str) (ln : Int) (i : Nat) (x : Ex) (S : List Str) (room : Nat) (hW : W.drop i = exW x ++ S) (st : stopW S) (hL : LyG L) (hx : okE L room x = true) (hA : (exA x).dep ≤ 5) (hP : ∀ p ∈ exL x, p.2.dep ≤ 5) : R_Reader_chain_p6 a (rdCs a W L ln i) [.int (room : Int)] (fun cs d => cs = rdCs a W L ln (i + (exW x).length) ∧ d = .tup [x.e, .int (x.dep : Int)])
inductive R_Reader_part_p1 : Addr → Cs → List D → (Cs → D → Prop) → Prop where
  | mk (a : Addr) (W L : List Str) (ln : Int) (i : Nat) (x : Ex) (S : List Str) (room : Nat) (hW : W.drop i = ptW x ++ S) (hL : LyG L) (hx : okE L room x = true) (hd : x.dep ≤ 1) : R_Reader_part_p1 a (rdCs a W L ln i) [.int (room : Int)] (fun cs d => cs = rdCs a W L ln (i + (ptW x).length) ∧ d = .tup [x.e, .int (x.dep : Int)])
inductive R_Reader_part_p2 : Addr → Cs → List D → (Cs → D → Prop) → Prop where
  | mk (a : Addr) (W L : List Str) (ln : Int) (i : Nat) (x : Ex) (S : List Str) (room : Nat) (hW : W.drop i = ptW x ++ S) (hL : LyG L) (hx : okE L room x = true) (hd : x.dep ≤ 2) : R_Reader_part_p2 a (rdCs a W L ln i) [.int (room : Int)] (fun cs d => cs = rdCs a W L ln (i + (ptW x).length) ∧ d = .tup [x.e, .int (x.dep : Int)])
inductive R_Reader_part_p3 : Addr → Cs → List D → (Cs → D → Prop) → Prop where
  | mk (a : Addr) (W L : List Str) (ln : Int) (i : Nat) (x : Ex) (S : List Str) (room : Nat) (hW : W.drop i = ptW x ++ S) (hL : LyG L) (hx : okE L room x = true) (hd : x.dep ≤ 3) : R_Reader_part_p3 a (rdCs a W L ln i) [.int (room : Int)] (fun cs d => cs = rdCs a W L ln (i + (ptW x).length) ∧ d = .tup [x.e, .int (x.dep : Int)])
inductive R_Reader_part_p4 : Addr → Cs → List D → (Cs → D → Prop) → Prop where
  | mk (a : Addr) (W L : List Str) (ln : Int) (i : Nat) (x : Ex) (S : List Str) (room : Nat) (hW : W.drop i = ptW x ++ S) (hL : LyG L) (hx : okE L room x = true) (hd : x.dep ≤ 4) : R_Reader_part_p4 a (rdCs a W L ln i) [.int (room : Int)] (fun cs d => cs = rdCs a W L ln (i + (ptW x).length) ∧ d = .tup [x.e, .int (x.dep : Int)])
inductive R_Reader_part_p5 : Addr → Cs → List D → (Cs → D → Prop) → Prop where
  | mk (a : Addr) (W L : List Str) (ln : Int) (i : Nat) (x : Ex) (S : List Str) (room : Nat) (hW : W.drop i = ptW x ++ S) (hL : LyG L) (hx : okE L room x = true) (hd : x.dep ≤ 5) : R_Reader_part_p5 a (rdCs a W L ln i) [.int (room : Int)] (fun cs d => cs = rdCs a W L ln (i + (ptW x).length) ∧ d = .tup [x.e, .int (x.dep : Int)])
inductive R_Reader_in_parentheses_p2 : Addr → Cs → List D → (Cs → D → Prop) → Prop where
  | mk (a : Addr) (W L : List Str) (ln : Int) (i : Nat) (x : Ex) (S : List Str) (room : Nat) (hT : x.isT = true) (hW : W.drop i = exW x ++ (")" : Str) :: S) (hL : LyG L) (hx : okE L room x = true) (hd : x.dep ≤ 2) : R_Reader_in_parentheses_p2 a (rdCs a W L ln i) [.int (room : Int)] (fun cs d => cs = rdCs a W L ln (i + (exW x).length + 1) ∧ d = .tup [x.e, .int (x.dep : Int)])
inductive R_Reader_in_parentheses_p3 : Addr → Cs → List D → (Cs → D → Prop) → Prop where
  | mk (a : Addr) (W L : List Str) (ln : Int) (i : Nat) (x : Ex) (S : List Str) (room : Nat) (hT : x.isT = true) (hW : W.drop i = exW x ++ (")" : Str) :: S) (hL : LyG L) (hx : okE L room x = true) (hd : x.dep ≤ 3) : R_Reader_in_parentheses_p3 a (rdCs a W L ln i) [.int (room : Int)] (fun cs d => cs = rdCs a W L ln (i + (exW x).length + 1) ∧ d = .tup [x.e, .int (x.dep : Int)])
inductive R_Reader_in_parentheses_p4 : Addr → Cs → List D → (Cs → D → Prop) → Prop where
  | mk (a : Addr) (W L : List Str) (ln : Int) (i : Nat) (x : Ex) (S : List Str) (room : Nat) (hT : x.isT = true) (hW : W.drop i = exW x ++ (")" : Str) :: S) (hL : LyG L) (hx : okE L room x = true) (hd : x.dep ≤ 4) : R_Reader_in_parentheses_p4 a (rdCs a W L ln i) [.int (room : Int)] (fun cs d => cs = rdCs a W L ln (i + (exW x).length + 1) ∧ d = .tup [x.e, .int (x.dep : Int)])
inductive R_Reader_in_parentheses_p5 : Addr → Cs → List D → (Cs → D → Prop) → Prop where
  | mk (a : Addr) (W L : List Str) (ln : Int) (i : Nat) (x : Ex) (S : List Str) (room : Nat) (hT : x.isT = true) (hW : W.drop i = exW x ++ (")" : Str) :: S) (hL : LyG L) (hx : okE L room x = true) (hd : x.dep ≤ 5) : R_Reader_in_parentheses_p5 a (rdCs a W L ln i) [.int (room : Int)] (fun cs d => cs = rdCs a W L ln (i + (exW x).length + 1) ∧ d = .tup [x.e, .int (x.dep : Int)])
inductive R_Reader_size : Addr → Cs → List D → (Cs → D → Prop) → Prop where
  | mk (a : Addr) (W L : List Str) (ln : Int) (i : Nat) (o : Fin 3) (n : Int) (hw : wAtI W i = stI n) (hz : szE (opS o) n = true) : R_Reader_size a (rdCs a W L ln i) [.str (opS o)] (fun cs d => cs = rdCs a W L ln (i + 1) ∧ d = .int n)
inductive R_read_definition : List D → D → Prop where
  | mk (L : List Str) (f : Df) (ln : Int) (hn : newB L f.1 = true) (he : okE L 12 f.2 = true) (hL : LyG L) (hd : f.2.dep ≤ 5) : R_read_definition [.lst ((f.1 :: exW f.2).map .str), .lst (L.map .str), .int ln] f.e
inductive R_read_rule : List D → D → Prop where
  | mk (L : List Str) (r : RuX) (ln : Int) (f : Form r.1 r.2.1.length r.2.2.length) (ok : okRL L r.1 r.2.1 r.2.2 = true) : R_read_rule [.lst ((ruT r).map .str), .lst (L.map .str), .int ln] (ruX r)
inductive R_parse_deck : List D → D → Prop where
  | mk (F : List Df) (Q : List RuX) (t : DkT F Q) : R_parse_deck [.str (txD (dkW F Q))] (dkD F Q)
inductive R_law_cell : List D → D → Prop where
  | mk (ns : List Int) (k : Int) (h : 0 ≤ k) : R_law_cell [.lst (ns.map .int), .int k] (.int (cellAt ns k))
inductive R_law_draws : List D → D → Prop where
  | mk (c n : Int) (h : 0 ≤ n) (h2 : n ≤ 1000) : R_law_draws [.int c, .int n] (.lst ((draws c n).map .int))
inductive R_law_is_text : List D → D → Prop where
  | mk (z : Str) : R_law_is_text [.str z, .str z] (.bl true)
inductive R_law_layers : List D → D → Prop where
  | mk : R_law_layers [] (.lst (lays.map .str))
inductive R_law_name : List D → D → Prop where
  | mk (d : Int) (h : 0 ≤ d) : R_law_name [.int d] (.str (nmOf d))
inductive R_law_like_int : List D → D → Prop where
  | mk (i : Int) : R_law_like_int [.int i, .int i] (.bl true)
inductive R_law_like_str : List D → D → Prop where
  | mk (z : Str) : R_law_like_str [.str z, .str z] (.bl true)
inductive R_law_like_m1 : List D → D → Prop where
  | mk (ds : List D) (h : ds.length ≤ 1000) (hl : ∀ d ∈ ds, MD 0 d) : R_law_like_m1 [.tup ds, .tup ds] (.bl true)
inductive R_law_like_m2 : List D → D → Prop where
  | mk (ds : List D) (h : ds.length ≤ 1000) (hl : ∀ d ∈ ds, MD 1 d) : R_law_like_m2 [.tup ds, .tup ds] (.bl true)
inductive R_law_like_m3 : List D → D → Prop where
  | mk (ds : List D) (h : ds.length ≤ 1000) (hl : ∀ d ∈ ds, MD 2 d) : R_law_like_m3 [.tup ds, .tup ds] (.bl true)
inductive R_law_like_m4 : List D → D → Prop where
  | mk (ds : List D) (h : ds.length ≤ 1000) (hl : ∀ d ∈ ds, MD 3 d) : R_law_like_m4 [.tup ds, .tup ds] (.bl true)
inductive R_law_like_m5 : List D → D → Prop where
  | mk (ds : List D) (h : ds.length ≤ 1000) (hl : ∀ d ∈ ds, MD 4 d) : R_law_like_m5 [.tup ds, .tup ds] (.bl true)
inductive R_law_like_m6 : List D → D → Prop where
  | mk (ds : List D) (h : ds.length ≤ 1000) (hl : ∀ d ∈ ds, MD 5 d) : R_law_like_m6 [.tup ds, .tup ds] (.bl true)
inductive R_law_like_m7 : List D → D → Prop where
  | mk (ds : List D) (h : ds.length ≤ 1000) (hl : ∀ d ∈ ds, MD 6 d) : R_law_like_m7 [.tup ds, .tup ds] (.bl true)
inductive R_law_qexpression_d0 : List D → D → Prop where
  | mk (c : Int) (N : List Str) (a dp : Int) (hN : 0 < N.length) (hNl : N.length ≤ 100) (hd : dp ≤ 1) : R_law_qexpression_d0 [.lst ((draws c 90).map .int), .int a, .int dp, .lst (N.map .str)] (qEx (dr c 90) N 0 a dp).e
inductive R_law_qexpression_d1 : List D → D → Prop where
  | mk (c : Int) (N : List Str) (a dp : Int) (hN : 0 < N.length) (hNl : N.length ≤ 100) (hd : dp ≤ 2) : R_law_qexpression_d1 [.lst ((draws c 90).map .int), .int a, .int dp, .lst (N.map .str)] (qEx (dr c 90) N 1 a dp).e
inductive R_law_qexpression_d2 : List D → D → Prop where
  | mk (c : Int) (N : List Str) (a dp : Int) (hN : 0 < N.length) (hNl : N.length ≤ 100) (hd : dp ≤ 3) : R_law_qexpression_d2 [.lst ((draws c 90).map .int), .int a, .int dp, .lst (N.map .str)] (qEx (dr c 90) N 2 a dp).e
inductive R_law_qexpression_d3 : List D → D → Prop where
  | mk (c : Int) (N : List Str) (a dp : Int) (hN : 0 < N.length) (hNl : N.length ≤ 100) (hd : dp ≤ 4) : R_law_qexpression_d3 [.lst ((draws c 90).map .int), .int a, .int dp, .lst (N.map .str)] (qEx (dr c 90) N 3 a dp).e
inductive R_law_qexpression_d4 : List D → D → Prop where
  | mk (c : Int) (N : List Str) (a dp : Int) (hN : 0 < N.length) (hNl : N.length ≤ 100) (hd : dp ≤ 5) : R_law_qexpression_d4 [.lst ((draws c 90).map .int), .int a, .int dp, .lst (N.map .str)] (qEx (dr c 90) N 4 a dp).e
inductive R_law_qdefinitions : List D → D → Prop where
  | mk (c most dp : Int) (hm : 0 ≤ most ∧ most ≤ 50) (hd : 1 ≤ dp ∧ dp ≤ 5) : R_law_qdefinitions [.int c, .int most, .int dp] (.lst ((qDfs5 c dp (dr c 90 89 % (most + 1)).toNat).map Df.e))
inductive R_law_qrule : List D → D → Prop where
  | mk (N : List Str) (q m : Int) (h : 2 ≤ N.length) : R_law_qrule [.int q, .int m, .lst (N.map .str)] (ruX (qRu N q m))
inductive R_law_qrules : List D → D → Prop where
  | mk (N : List Str) (c most : Int) (hm : 0 ≤ most ∧ most ≤ 50) (h : 2 ≤ N.length) : R_law_qrules [.int c, .int most, .lst (N.map .str)] (.lst ((qRus N c most).map ruX))
inductive R_law_qwords_q1 : List D → D → Prop where
  | mk (L : List Str) (d : Nat) (x : Ex) (hx : okE L d x = true) (hd : x.dep ≤ 1) : R_law_qwords_q1 [x.e] (.lst ((exW x).map .str))
inductive R_law_qwords_q2 : List D → D → Prop where
  | mk (L : List Str) (d : Nat) (x : Ex) (hx : okE L d x = true) (hd : x.dep ≤ 2) : R_law_qwords_q2 [x.e] (.lst ((exW x).map .str))
inductive R_law_qwords_q3 : List D → D → Prop where
  | mk (L : List Str) (d : Nat) (x : Ex) (hx : okE L d x = true) (hd : x.dep ≤ 3) : R_law_qwords_q3 [x.e] (.lst ((exW x).map .str))
inductive R_law_qwords_q4 : List D → D → Prop where
  | mk (L : List Str) (d : Nat) (x : Ex) (hx : okE L d x = true) (hd : x.dep ≤ 4) : R_law_qwords_q4 [x.e] (.lst ((exW x).map .str))
inductive R_law_qwords_q5 : List D → D → Prop where
  | mk (L : List Str) (d : Nat) (x : Ex) (hx : okE L d x = true) (hd : x.dep ≤ 5) : R_law_qwords_q5 [x.e] (.lst ((exW x).map .str))
inductive R_law_qdeck_lines : List D → D → Prop where
  | mk (F : List Df) (Q : List RuX) (t : DkT F Q) : R_law_qdeck_lines [.lst (F.map Df.e), .lst (Q.map ruX)] (.lst (((dkW F Q).map lnW).map .str))
abbrev R_law := RLaw
def top (i : Nat) : Stmt := PySem.Challenge.pw_reticle_k47_written_decks.main.body.getD i (.Pass ⟨0, 0, 0, 0⟩)
structure Bt (mg : Str → Option Value) : Prop where
  «all» : mg "all" = none
  «bool» : mg "bool" = none
  «enumerate» : mg "enumerate" = none
  «int» : mg "int" = none
  «isinstance» : mg "isinstance" = none
  «len» : mg "len" = none
  «list» : mg "list" = none
  «max» : mg "max" = none
  «range» : mg "range" = none
  «set» : mg "set" = none
  «str» : mg "str" = none
  «tuple» : mg "tuple" = none
structure Kt (K : PySem.W.Frag) (mg : Str → Option Value) : Prop where
  «FROM_ZERO» : Cst K mg "FROM_ZERO" (.tup [.str "apart", .str "cover"])
  «GREATEST_DEPTH» : Cst K mg "GREATEST_DEPTH" (.int 12)
  «GREATEST_NUMBER» : Cst K mg "GREATEST_NUMBER" (.int 1000)
  «LAYERS» : Cst K mg "LAYERS" (.tup [.str "well", .str "active", .str "poly", .str "contact", .str "metal", .str "via", .str "top"])
  «MOST_CHARACTERS» : Cst K mg "MOST_CHARACTERS" (.int 12)
  «MOST_DEFINITIONS» : Cst K mg "MOST_DEFINITIONS" (.int 40)
  «MOST_DIGITS» : Cst K mg "MOST_DIGITS" (.int 30)
  «MOST_RULES» : Cst K mg "MOST_RULES" (.int 40)
  «PAIRING» : Cst K mg "PAIRING" (.tup [.str "and", .str "or", .str "minus", .str "odd"])
  «SIZING» : Cst K mg "SIZING" (.tup [.str "grow", .str "shrink", .str "open"])
  «WORDS» : Cst K mg "WORDS" (.tup [.str "and", .str "or", .str "minus", .str "odd", .str "grow", .str "shrink", .str "open", .str "layer", .str "rule"])
structure Lt (K : PySem.W.Frag) (mg : Str → Option Value) : Prop where
  «Deck» : Kl K mg "Deck" ["definitions", "rules"]
  «Reader» : Kl K mg "Reader" ["_words", "_layers", "_line", "_at"]
structure Zdt (K : PySem.W.Frag) (w : World) (mg : Str → Option Value) : Prop where
  «LAYER_COUNTS» : KdT K w mg "LAYER_COUNTS" lcT
  «LAYER_COUNTS in» : ∀ q ∈ lcT, KdI K w mg "LAYER_COUNTS" q.1
  «NUMBER_COUNTS» : KdT K w mg "NUMBER_COUNTS" ncT
section
variable {P : Program} {w : World} {K : PySem.W.Frag} {mg : Str → Option Value} {base : Heap}
abbrev s_is_name : Stmt := top 7
theorem sc_is_name : FnScope ["name", "sign"] ["name"] (defScope s_is_name) := ⟨rfl, rfl, rfl, by decide +kernel, rfl, by decide +kernel, by decide +kernel⟩
theorem ok_is_name {f : Addr} {fd : FuncData} (F : Fun K "is_name" "is_name" s_is_name f fd) (B : Bt mg) (KC : Kt K mg) (KL : Lt K mg) (WD : Zdt K w mg)  :
    FnOk P w K mg base CX0 1 f fd ["name"] (spR K R_is_name) := by
  refine fn_ok (k := 0) F sc_is_name (fun ds d h => by cases h <;> rfl) fun ds d hR cdv A outer s H E hr => ?_
  have nd := sc_is_name.nd
  have hu := hr.units
  rcases hR with ⟨x, hx⟩
  walk_at "en"
  refine ws_cons (ws_if (td_tw (tw_or (td_not (td_chain ed_int (ed_callB (id := "len") (by rfl) B.«len» bb_len (ad_cons (ed_var 0 rfl) ad_nil) (bc_lenS hx)) (ed_const KC.«MOST_CHARACTERS» (by rfl)) (by walk_at "c2") (by walk_at "c2"))) (fun hb2 => (tw_or1 (td_not (TD.eq (td_chain ed_str (ed_ixS (c := x.cps.toList.getD 0 0) (ed_var 0 rfl) ed_int hx (at_first hb2)) ed_str (by walk_at "c2") (by walk_at "c2")) (chA _))))))) (fun hc1 => ?_) (fun hc1 => ?_))
  · skip
    have hf := name_no hc1
    refine ws_cons (ws_ret (ED.eq ed_bl ?_) (Or.inl rfl))
    rw [hf]
  · skip
    have hf := name_yes hc1
    refine ws_nil ?_
    refine ws_cons (ws_ret (ED.eq (ed_callB (id := "all") (by rfl) B.«all» bb_all (ad_cons (ed_lst (eo_map2 [("sign", 1)] (x.cps.toList) (fun c => D.str (sgn c)) (chB) (D.bl) rfl nd (blkOk_by (N := ["name", "sign"]) (sc := defScope s_is_name) (by decide +kernel)) (id_str (ed_var 0 rfl)) (rfl) (fun c hxm => ⟨_, by rfl, fun _ _ _ _ _ => ⟨(dg_name 1 nd), tds_nil, (ed_or (ED.eq (ed_chain ed_str (ed_var 1 rfl) ed_str (by walk_at "c2") (by walk_at "c2")) (show _ = (D.bl (loB c)) from by exact congrArg D.bl (chA c))) (fun hb4 => (ed_one (ED.eq (ed_chain ed_str (ed_var 1 rfl) ed_str (by walk_at "c2") (by walk_at "c2")) (show _ = (D.bl (decide (48 ≤ c) && decide (c ≤ 57))) from by exact congrArg D.bl (ch0 c))))))⟩⟩) (by rw [Array.length_toList]; exact hx))) ad_nil) (bc_all rfl)) ?_) (Or.inl rfl))
    rw [hf]
abbrev s_rule_layers : Stmt := top 13
theorem sc_rule_layers : FnScope ["rule"] ["rule"] (defScope s_rule_layers) := ⟨rfl, rfl, rfl, by decide +kernel, rfl, by decide +kernel, by decide +kernel⟩
theorem ok_rule_layers {f : Addr} {fd : FuncData} (F : Fun K "rule_layers" "rule_layers" s_rule_layers f fd) (B : Bt mg) (KC : Kt K mg) (KL : Lt K mg) (WD : Zdt K w mg)  :
    FnOk P w K mg base CX0 1 f fd ["rule"] (spR K R_rule_layers) := by
  refine fn_ok (k := 0) F sc_rule_layers (fun ds d h => by cases h <;> rfl) fun ds d hR cdv A outer s H E hr => ?_
  have nd := sc_rule_layers.nd
  have hu := hr.units
  rcases hR with ⟨k, ls, ns, f⟩
  have hfl := form_len f
  walk_at "en"
  refine ws_cons (ws_ret (ED.eq (ed_sliceT (ed_var 0 rfl) (some_part ed_int) (some_part (ed_bin ed_int (ed_kdict (WD.«LAYER_COUNTS».get _ (lc_mem f)) (by rfl) (ed_ix (ed_var 0 rfl) ed_int (by walk_at "ix"))) (by walk_at "b2")))) ?_) (Or.inl rfl))
  rw [cut_ls]
abbrev s_rule_numbers : Stmt := top 14
theorem sc_rule_numbers : FnScope ["rule"] ["rule"] (defScope s_rule_numbers) := ⟨rfl, rfl, rfl, by decide +kernel, rfl, by decide +kernel, by decide +kernel⟩
theorem ok_rule_numbers {f : Addr} {fd : FuncData} (F : Fun K "rule_numbers" "rule_numbers" s_rule_numbers f fd) (B : Bt mg) (KC : Kt K mg) (KL : Lt K mg) (WD : Zdt K w mg)  :
    FnOk P w K mg base CX0 1 f fd ["rule"] (spR K R_rule_numbers) := by
  refine fn_ok (k := 0) F sc_rule_numbers (fun ds d h => by cases h <;> rfl) fun ds d hR cdv A outer s H E hr => ?_
  have nd := sc_rule_numbers.nd
  have hu := hr.units
  rcases hR with ⟨k, ls, ns, f⟩
  have hfl := form_len f
  walk_at "en"
  refine ws_cons (ws_ret (ED.eq (ed_sliceT (ed_var 0 rfl) (some_part (ed_bin ed_int (ed_kdict (WD.«LAYER_COUNTS».get _ (lc_mem f)) (by rfl) (ed_ix (ed_var 0 rfl) ed_int (by walk_at "ix"))) (by walk_at "b2"))) no_part) ?_) (Or.inl rfl))
  rw [cut_ns]
abbrev s_is_rule_over : Stmt := top 15
theorem sc_is_rule_over : FnScope ["layers", "rule", "named", "least", "layer", "number"] ["layers", "rule"] (defScope s_is_rule_over) := ⟨rfl, rfl, rfl, by decide +kernel, rfl, by decide +kernel, by decide +kernel⟩
theorem ok_is_rule_over {f : Addr} {fd : FuncData} (F : Fun K "is_rule_over" "is_rule_over" s_is_rule_over f fd) (B : Bt mg) (KC : Kt K mg) (KL : Lt K mg) (WD : Zdt K w mg) (G_rule_layers : Fn P w K mg base "rule_layers" 1 R_rule_layers) (G_rule_numbers : Fn P w K mg base "rule_numbers" 1 R_rule_numbers) :
    FnOk P w K mg base CX0 2 f fd ["layers", "rule"] (spR K R_is_rule_over) := by
  refine fn_ok (k := 1) F sc_is_rule_over (fun ds d h => by cases h <;> rfl) fun ds d hR cdv A outer s H E hr => ?_
  have nd := sc_is_rule_over.nd
  have hu := hr.units
  rcases hR with ⟨L, k, ls, ns, f⟩
  have hfl := form_len f
  walk_at "en"
  refine ws_cons (ws_set 2 nd (ed_call G_rule_layers (hr.mono (by decide)) (by rfl) (ad_cons (ed_var 1 rfl) ad_nil) (by exact .mk _ _ _ f)) ?_)
  walk_at "env"
  refine ws_cons (ws_set 3 nd (ED.eq (ed_ifI (TD.eq (td_cmp (ed_ix (ed_var 1 rfl) ed_int (by walk_at "ix")) (ed_const KC.«FROM_ZERO» (by rfl)) (c2_inStr (ys := ["apart", "cover"]) (.tup _)) (by rfl)) rfl) (fun hc1 => ed_int) (fun hc1 => ed_int)) (show _ = (D.int (least k)) from by rfl)) ?_)
  walk_at "env"
  refine ws_cons (ws_ret (ED.eq (ed_and (ed_callB (id := "all") (by rfl) B.«all» bb_all (ad_cons (ed_lst (eo_map2 [("layer", 4)] (ls) (D.str) (fun l => decide (l ∈ L)) (D.bl) rfl nd (blkOk_by (N := ["layers", "rule", "named", "least", "layer", "number"]) (sc := defScope s_is_rule_over) (by decide +kernel)) (id_tup (ed_var 2 rfl)) (rfl) (fun l hxm => ⟨_, by rfl, fun _ _ _ _ _ => ⟨(dg_name 4 nd), tds_nil, (ed_cmp (ed_var 4 rfl) (ed_var 0 rfl) (c2_inStr (ys := L) (.lst _)) (by rfl))⟩⟩) (by rw [sizeLine_eq]; omega))) ad_nil) (bc_all rfl)) (fun hb5 => (ed_and (ed_cmp (ed_lenSetKT (ks := ls.map fun l => (Sum.inr l : Key)) (by rfl) (by rfl) B.«len» (by rfl) B.«set» (ED.eq (ed_var 2 rfl) (by rw [List.map_map]; rfl)) (by rw [List.length_map]; omega)) (ed_callB (id := "len") (by rfl) B.«len» bb_len (ad_cons (ed_var 2 rfl) ad_nil) (bc_lenT)) (by walk_at "c2")) (fun hb3 => (ed_one (ed_callB (id := "all") (by rfl) B.«all» bb_all (ad_cons (ed_lst (eo_map2 [("number", 5)] (ns) (D.int) (fun n => decide (least k ≤ n) && decide (n ≤ 1000)) (D.bl) rfl nd (blkOk_by (N := ["layers", "rule", "named", "least", "layer", "number"]) (sc := defScope s_is_rule_over) (by decide +kernel)) (id_tup (ed_call G_rule_numbers (hr.mono (by decide)) (by rfl) (ad_cons (ed_var 1 rfl) ad_nil) (by exact .mk _ _ _ f))) (rfl) (fun n hxm => ⟨_, by rfl, fun _ _ _ _ _ => ⟨(dg_name 5 nd), tds_nil, (ed_chain (ed_var 3 rfl) (ed_var 5 rfl) (ed_const KC.«GREATEST_NUMBER» (by rfl)) (by walk_at "c2") (by walk_at "c2"))⟩⟩) (by rw [sizeLine_eq]; omega))) ad_nil) (bc_all rfl))))))) ?_) (Or.inl rfl))
  unfold okRL
  rw [List.length_map]
  simp
abbrev s_parts_of : Stmt := top 23
theorem sc_parts_of : FnScope ["expression"] ["expression"] (defScope s_parts_of) := ⟨rfl, rfl, rfl, by decide +kernel, rfl, by decide +kernel, by decide +kernel⟩
theorem ok_parts_of {f : Addr} {fd : FuncData} (F : Fun K "parts_of" "parts_of" s_parts_of f fd) (B : Bt mg) (KC : Kt K mg) (KL : Lt K mg) (WD : Zdt K w mg)  :
    FnOk P w K mg base CX0 1 f fd ["expression"] (spR K R_parts_of) := by
  refine fn_ok (k := 0) F sc_parts_of (fun ds d h => by cases h <;> rfl) fun ds d hR cdv A outer s H E hr => ?_
  have nd := sc_parts_of.nd
  have hu := hr.units
  rcases hR with ⟨x⟩
  walk_at "en"
  rcases x with n | ⟨o, l, r⟩ | ⟨o, n, y⟩
  · skip
    refine ws_cons (ws_if (TD.eq (td_cmp (ED.eq (d' := .str "layer") (ed_ix (ED.eq (d' := .tup [.str "layer", .str n]) (ed_var 0 rfl) rfl) ed_int IX.t0) rfl) (ed_const KC.«PAIRING» (by rfl)) (c2_inStr (ys := opL4) (.tup _)) (by rfl)) lay_notP) (fun hc1 => ?_) (fun hc1 => ?_))
    · skip
      cases hc1
    · skip
      clear hc1
      refine ws_nil ?_
      refine ws_cons (ws_ret (ED.eq (ed_if (d := .tup []) (TD.eq (td_cmp (ED.eq (d' := .str "layer") (ed_ix (ED.eq (d' := .tup [.str "layer", .str n]) (ed_var 0 rfl) rfl) ed_int IX.t0) rfl) (ed_const KC.«SIZING» (by rfl)) (c2_inStr (ys := opL3) (.tup _)) (by rfl)) lay_notS) (fun h => by cases h) (fun _ => (ED.eq (ed_tup ad_nil) rfl))) ?_) (Or.inl rfl))
      rfl
  · skip
    refine ws_cons (ws_if (TD.eq (td_cmp (ED.eq (d' := .str (opP o)) (ed_ix (ED.eq (d' := .tup [.str (opP o), l.e, r.e]) (ed_var 0 rfl) rfl) ed_int IX.t0) rfl) (ed_const KC.«PAIRING» (by rfl)) (c2_inStr (ys := opL4) (.tup _)) (by rfl)) (opP_in o)) (fun hc2 => ?_) (fun hc2 => ?_))
    · skip
      clear hc2
      refine ws_cons (ws_ret (ED.eq (ED.eq (d' := .tup [l.e, r.e]) (ed_sliceT (ED.eq (d' := .tup [.str (opP o), l.e, r.e]) (ed_var 0 rfl) rfl) (some_part ed_int) no_part) rfl) ?_) (Or.inl rfl))
      rfl
    · skip
      cases hc2
  · skip
    refine ws_cons (ws_if (TD.eq (td_cmp (ED.eq (d' := .str (opS o)) (ed_ix (ED.eq (d' := .tup [.str (opS o), .int n, y.e]) (ed_var 0 rfl) rfl) ed_int IX.t0) rfl) (ed_const KC.«PAIRING» (by rfl)) (c2_inStr (ys := opL4) (.tup _)) (by rfl)) (opS_notP o)) (fun hc3 => ?_) (fun hc3 => ?_))
    · skip
      cases hc3
    · skip
      clear hc3
      refine ws_nil ?_
      refine ws_cons (ws_ret (ED.eq (ed_if (d := .tup [y.e]) (TD.eq (td_cmp (ED.eq (d' := .str (opS o)) (ed_ix (ED.eq (d' := .tup [.str (opS o), .int n, y.e]) (ed_var 0 rfl) rfl) ed_int IX.t0) rfl) (ed_const KC.«SIZING» (by rfl)) (c2_inStr (ys := opL3) (.tup _)) (by rfl)) (opS_in o)) (fun _ => (ED.eq (ed_sliceT (ED.eq (d' := .tup [.str (opS o), .int n, y.e]) (ed_var 0 rfl) rfl) (some_part ed_int) no_part) rfl)) (fun h => by cases h)) ?_) (Or.inl rfl))
      rfl
abbrev s_is_size : Stmt := top 24
theorem sc_is_size : FnScope ["operation", "n"] ["operation", "n"] (defScope s_is_size) := ⟨rfl, rfl, rfl, by decide +kernel, rfl, by decide +kernel, by decide +kernel⟩
theorem ok_is_size {f : Addr} {fd : FuncData} (F : Fun K "is_size" "is_size" s_is_size f fd) (B : Bt mg) (KC : Kt K mg) (KL : Lt K mg) (WD : Zdt K w mg)  :
    FnOk P w K mg base CX0 1 f fd ["operation", "n"] (spR K R_is_size) := by
  refine fn_ok (k := 0) F sc_is_size (fun ds d h => by cases h <;> rfl) fun ds d hR cdv A outer s H E hr => ?_
  have nd := sc_is_size.nd
  have hu := hr.units
  rcases hR with ⟨o, n⟩
  walk_at "en"
  refine ws_cons (ws_ret (ED.eq (ed_chain (ed_ifI (td_cmp (ed_var 0 rfl) ed_str (by walk_at "c2")) (fun hc1 => ed_int) (fun hc1 => ed_int)) (ed_var 1 rfl) (ed_const KC.«GREATEST_NUMBER» (by rfl)) (by walk_at "c2") (by walk_at "c2")) ?_) (Or.inl rfl))
  unfold szE
  simp
abbrev s_is_expression_over_z0 : Stmt := top 25
theorem sc_is_expression_over_z0 : FnScope ["layers", "expression", "depth", "part"] ["layers", "expression", "depth"] (defScope s_is_expression_over_z0) := ⟨rfl, rfl, rfl, by decide +kernel, rfl, by decide +kernel, by decide +kernel⟩
theorem ok_is_expression_over_z0 {f : Addr} {fd : FuncData} (F : Fun K "is_expression_over" "is_expression_over" s_is_expression_over_z0 f fd) (B : Bt mg) (KC : Kt K mg) (KL : Lt K mg) (WD : Zdt K w mg)  :
    FnOk P w K mg base CX0 2 f fd ["layers", "expression", "depth"] (spR K R_is_expression_over_z0) := by
  refine fn_ok (k := 1) F sc_is_expression_over_z0 (fun ds d h => by cases h <;> rfl) fun ds d hR cdv A outer s H E hr => ?_
  have nd := sc_is_expression_over_z0.nd
  have hu := hr.units
  rcases hR with ⟨L, x, dp, hd⟩
  walk_at "en"
  refine ws_cons (ws_if (td_cmp (ed_var 2 rfl) ed_int (by walk_at "c2")) (fun hc1 => ?_) (fun hc1 => ?_))
  · skip
    have hd1 := of_decide_eq_true hc1
    refine ws_cons (ws_ret (ED.eq ed_bl ?_) (Or.inl rfl))
    rw [okE_no hd1]
  · skip
    have := of_decide_eq_false hc1; omega
abbrev s_is_expression_over_z1 : Stmt := top 25
theorem sc_is_expression_over_z1 : FnScope ["layers", "expression", "depth", "part"] ["layers", "expression", "depth"] (defScope s_is_expression_over_z1) := ⟨rfl, rfl, rfl, by decide +kernel, rfl, by decide +kernel, by decide +kernel⟩
theorem ok_is_expression_over_z1 {f : Addr} {fd : FuncData} (F : Fun K "is_expression_over" "is_expression_over" s_is_expression_over_z1 f fd) (B : Bt mg) (KC : Kt K mg) (KL : Lt K mg) (WD : Zdt K w mg) (G_is_expression_over_z0 : Fn P w K mg base "is_expression_over" 2 R_is_expression_over_z0) (G_is_expression_over_z0 : Fn P w K mg base "is_expression_over" 2 R_is_expression_over_z0) (G_is_size : Fn P w K mg base "is_size" 1 R_is_size) (G_parts_of : Fn P w K mg base "parts_of" 1 R_parts_of) :
    FnOk P w K mg base CX0 3 f fd ["layers", "expression", "depth"] (spR K R_is_expression_over_z1) := by
  refine fn_ok (k := 2) F sc_is_expression_over_z1 (fun ds d h => by cases h <;> rfl) fun ds d hR cdv A outer s H E hr => ?_
  have nd := sc_is_expression_over_z1.nd
  have hu := hr.units
  rcases hR with ⟨L, x, dp, hd⟩
  walk_at "en"
  refine ws_cons (ws_if (td_cmp (ed_var 2 rfl) ed_int (by walk_at "c2")) (fun hc1 => ?_) (fun hc1 => ?_))
  · skip
    have hd1 := of_decide_eq_true hc1
    refine ws_cons (ws_ret (ED.eq ed_bl ?_) (Or.inl rfl))
    rw [okE_no hd1]
  · skip
    have hd1 := of_decide_eq_false hc1
    refine ws_nil ?_
    rcases x with n | ⟨o, l, r⟩ | ⟨o, n, y⟩
    · skip
      refine ws_cons (ws_if (TD.eq (td_cmp (ED.eq (d' := .str "layer") (ed_ix (ED.eq (d' := .tup [.str "layer", .str n]) (ed_var 1 rfl) rfl) ed_int IX.t0) rfl) ed_str c2_eqS (by rfl)) rfl) (fun hc2 => ?_) (fun hc2 => ?_))
      · skip
        clear hc2
        refine ws_cons (ws_ret (ED.eq (ed_cmp (ED.eq (d' := .str n) (ed_ix (ED.eq (d' := .tup [.str "layer", .str n]) (ed_var 1 rfl) rfl) ed_int IX.t1) rfl) (ed_var 0 rfl) (c2_inStr (ys := L) (.lst _)) (by rfl)) ?_) (Or.inl rfl))
        first | (rw [okE_s hd1]; rfl)
      · skip
        cases hc2
    · skip
      refine ws_cons (ws_if (TD.eq (td_cmp (ED.eq (d' := .str (opP o)) (ed_ix (ED.eq (d' := .tup [.str (opP o), l.e, r.e]) (ed_var 1 rfl) rfl) ed_int IX.t0) rfl) ed_str c2_eqS (by rfl)) (opP_lay o)) (fun hc3 => ?_) (fun hc3 => ?_))
      · skip
        cases hc3
      · skip
        clear hc3
        refine ws_nil ?_
        refine ws_cons (ws_if (td_tw (tw_and (k' := true) (TD.eq (td_cmp (ED.eq (d' := .str (opP o)) (ed_ix (ED.eq (d' := .tup [.str (opP o), l.e, r.e]) (ed_var 1 rfl) rfl) ed_int IX.t0) rfl) (ed_const KC.«SIZING» (by rfl)) (c2_inStr (ys := opL3) (.tup _)) (by rfl)) (opP_notS o)) (fun h => by cases h))) (fun hc4 => ?_) (fun hc4 => ?_))
        · skip
          simp at hc4
        · skip
          clear hc4
          refine ws_nil ?_
          refine ws_cons (ws_ret (ED.eq (ed_callB (id := "all") (by rfl) B.«all» bb_all (ad_cons (ed_lst (eo_map2 [("part", 3)] ((Ex.two o l r).parts) (Ex.e) (fun y => okE L (dp - 1).toNat y) (D.bl) rfl nd (blkOk_by (N := ["layers", "expression", "depth", "part"]) (sc := defScope s_is_expression_over_z1) (by decide +kernel)) (id_tup (ed_call G_parts_of (hr.mono (by decide)) (by rfl) (ad_cons (ed_var 1 rfl) ad_nil) (by exact .mk (Ex.two o l r)))) (rfl) (fun y hxm => ⟨_, by rfl, fun _ _ _ _ _ => ⟨(dg_name 3 nd), tds_nil, (ed_call G_is_expression_over_z0 (hr.mono (by decide)) (by rfl) (ad_cons (ed_var 0 rfl) (ad_cons (ed_var 3 rfl) (ad_cons (ed_bin (ed_var 2 rfl) ed_int (by walk_at "b2")) ad_nil))) (by exact .mk L _ (dp - 1) (by omega)))⟩⟩) (by rw [sizeLine_eq]; exact Nat.le_trans (parts_len _) (by decide)))) ad_nil) (bc_all rfl)) ?_) (Or.inl rfl))
          rw [okE_s hd1]
          show D.bl ([okE L (dp - 1).toNat l, okE L (dp - 1).toNat r].all id) = _
          simp [okE]
    · skip
      refine ws_cons (ws_if (TD.eq (td_cmp (ED.eq (d' := .str (opS o)) (ed_ix (ED.eq (d' := .tup [.str (opS o), .int n, y.e]) (ed_var 1 rfl) rfl) ed_int IX.t0) rfl) ed_str c2_eqS (by rfl)) (opS_lay o)) (fun hc6 => ?_) (fun hc6 => ?_))
      · skip
        cases hc6
      · skip
        clear hc6
        refine ws_nil ?_
        refine ws_cons (ws_if (td_tw (tw_and (TD.eq (td_cmp (ED.eq (d' := .str (opS o)) (ed_ix (ED.eq (d' := .tup [.str (opS o), .int n, y.e]) (ed_var 1 rfl) rfl) ed_int IX.t0) rfl) (ed_const KC.«SIZING» (by rfl)) (c2_inStr (ys := opL3) (.tup _)) (by rfl)) (opS_in o)) (fun hb8 => (tw_and1 (td_not (td_truth (ed_call G_is_size (hr.mono (by decide)) (by rfl) (ad_cons (ED.eq (d' := .str (opS o)) (ed_ix (ED.eq (d' := .tup [.str (opS o), .int n, y.e]) (ed_var 1 rfl) rfl) ed_int IX.t0) rfl) (ad_cons (ED.eq (d' := .int n) (ed_ix (ED.eq (d' := .tup [.str (opS o), .int n, y.e]) (ed_var 1 rfl) rfl) ed_int IX.t1) rfl) ad_nil)) (by exact .mk _ _)) rfl)))))) (fun hc7 => ?_) (fun hc7 => ?_))
        · skip
          have hsz : szE (opS o) n = false := by simpa using hc7
          refine ws_cons (ws_ret (ED.eq ed_bl ?_) (Or.inl rfl))
          first | (rw [okE_s hd1]; unfold okE; rw [hsz]; rfl) | (rw [okE_s hd1]; show D.bl ([okE L (dp - 1).toNat y].all id) = _; simp [okE, hsz])
        · skip
          have hsz : szE (opS o) n = true := by simpa using hc7
          refine ws_nil ?_
          refine ws_cons (ws_ret (ED.eq (ed_callB (id := "all") (by rfl) B.«all» bb_all (ad_cons (ed_lst (eo_map2 [("part", 3)] ((Ex.siz o n y).parts) (Ex.e) (fun y => okE L (dp - 1).toNat y) (D.bl) rfl nd (blkOk_by (N := ["layers", "expression", "depth", "part"]) (sc := defScope s_is_expression_over_z1) (by decide +kernel)) (id_tup (ed_call G_parts_of (hr.mono (by decide)) (by rfl) (ad_cons (ed_var 1 rfl) ad_nil) (by exact .mk (Ex.siz o n y)))) (rfl) (fun y hxm => ⟨_, by rfl, fun _ _ _ _ _ => ⟨(dg_name 3 nd), tds_nil, (ed_call G_is_expression_over_z0 (hr.mono (by decide)) (by rfl) (ad_cons (ed_var 0 rfl) (ad_cons (ed_var 3 rfl) (ad_cons (ed_bin (ed_var 2 rfl) ed_int (by walk_at "b2")) ad_nil))) (by exact .mk L _ (dp - 1) (by omega)))⟩⟩) (by rw [sizeLine_eq]; exact Nat.le_trans (parts_len _) (by decide)))) ad_nil) (bc_all rfl)) ?_) (Or.inl rfl))
          first | (rw [okE_s hd1]; unfold okE; rw [hsz]; rfl) | (rw [okE_s hd1]; show D.bl ([okE L (dp - 1).toNat y].all id) = _; simp [okE, hsz])
abbrev s_is_expression_over_z2 : Stmt := top 25
theorem sc_is_expression_over_z2 : FnScope ["layers", "expression", "depth", "part"] ["layers", "expression", "depth"] (defScope s_is_expression_over_z2) := ⟨rfl, rfl, rfl, by decide +kernel, rfl, by decide +kernel, by decide +kernel⟩
theorem ok_is_expression_over_z2 {f : Addr} {fd : FuncData} (F : Fun K "is_expression_over" "is_expression_over" s_is_expression_over_z2 f fd) (B : Bt mg) (KC : Kt K mg) (KL : Lt K mg) (WD : Zdt K w mg) (G_is_expression_over_z1 : Fn P w K mg base "is_expression_over" 3 R_is_expression_over_z1) (G_is_expression_over_z1 : Fn P w K mg base "is_expression_over" 3 R_is_expression_over_z1) (G_is_size : Fn P w K mg base "is_size" 1 R_is_size) (G_parts_of : Fn P w K mg base "parts_of" 1 R_parts_of) :
    FnOk P w K mg base CX0 4 f fd ["layers", "expression", "depth"] (spR K R_is_expression_over_z2) := by
  refine fn_ok (k := 3) F sc_is_expression_over_z2 (fun ds d h => by cases h <;> rfl) fun ds d hR cdv A outer s H E hr => ?_
  have nd := sc_is_expression_over_z2.nd
  have hu := hr.units
  rcases hR with ⟨L, x, dp, hd⟩
  walk_at "en"
  refine ws_cons (ws_if (td_cmp (ed_var 2 rfl) ed_int (by walk_at "c2")) (fun hc1 => ?_) (fun hc1 => ?_))
  · skip
    have hd1 := of_decide_eq_true hc1
    refine ws_cons (ws_ret (ED.eq ed_bl ?_) (Or.inl rfl))
    rw [okE_no hd1]
  · skip
    have hd1 := of_decide_eq_false hc1
    refine ws_nil ?_
    rcases x with n | ⟨o, l, r⟩ | ⟨o, n, y⟩
    · skip
      refine ws_cons (ws_if (TD.eq (td_cmp (ED.eq (d' := .str "layer") (ed_ix (ED.eq (d' := .tup [.str "layer", .str n]) (ed_var 1 rfl) rfl) ed_int IX.t0) rfl) ed_str c2_eqS (by rfl)) rfl) (fun hc2 => ?_) (fun hc2 => ?_))
      · skip
        clear hc2
        refine ws_cons (ws_ret (ED.eq (ed_cmp (ED.eq (d' := .str n) (ed_ix (ED.eq (d' := .tup [.str "layer", .str n]) (ed_var 1 rfl) rfl) ed_int IX.t1) rfl) (ed_var 0 rfl) (c2_inStr (ys := L) (.lst _)) (by rfl)) ?_) (Or.inl rfl))
        first | (rw [okE_s hd1]; rfl)
      · skip
        cases hc2
    · skip
      refine ws_cons (ws_if (TD.eq (td_cmp (ED.eq (d' := .str (opP o)) (ed_ix (ED.eq (d' := .tup [.str (opP o), l.e, r.e]) (ed_var 1 rfl) rfl) ed_int IX.t0) rfl) ed_str c2_eqS (by rfl)) (opP_lay o)) (fun hc3 => ?_) (fun hc3 => ?_))
      · skip
        cases hc3
      · skip
        clear hc3
        refine ws_nil ?_
        refine ws_cons (ws_if (td_tw (tw_and (k' := true) (TD.eq (td_cmp (ED.eq (d' := .str (opP o)) (ed_ix (ED.eq (d' := .tup [.str (opP o), l.e, r.e]) (ed_var 1 rfl) rfl) ed_int IX.t0) rfl) (ed_const KC.«SIZING» (by rfl)) (c2_inStr (ys := opL3) (.tup _)) (by rfl)) (opP_notS o)) (fun h => by cases h))) (fun hc4 => ?_) (fun hc4 => ?_))
        · skip
          simp at hc4
        · skip
          clear hc4
          refine ws_nil ?_
          refine ws_cons (ws_ret (ED.eq (ed_callB (id := "all") (by rfl) B.«all» bb_all (ad_cons (ed_lst (eo_map2 [("part", 3)] ((Ex.two o l r).parts) (Ex.e) (fun y => okE L (dp - 1).toNat y) (D.bl) rfl nd (blkOk_by (N := ["layers", "expression", "depth", "part"]) (sc := defScope s_is_expression_over_z2) (by decide +kernel)) (id_tup (ed_call G_parts_of (hr.mono (by decide)) (by rfl) (ad_cons (ed_var 1 rfl) ad_nil) (by exact .mk (Ex.two o l r)))) (rfl) (fun y hxm => ⟨_, by rfl, fun _ _ _ _ _ => ⟨(dg_name 3 nd), tds_nil, (ed_call G_is_expression_over_z1 (hr.mono (by decide)) (by rfl) (ad_cons (ed_var 0 rfl) (ad_cons (ed_var 3 rfl) (ad_cons (ed_bin (ed_var 2 rfl) ed_int (by walk_at "b2")) ad_nil))) (by exact .mk L _ (dp - 1) (by omega)))⟩⟩) (by rw [sizeLine_eq]; exact Nat.le_trans (parts_len _) (by decide)))) ad_nil) (bc_all rfl)) ?_) (Or.inl rfl))
          rw [okE_s hd1]
          show D.bl ([okE L (dp - 1).toNat l, okE L (dp - 1).toNat r].all id) = _
          simp [okE]
    · skip
      refine ws_cons (ws_if (TD.eq (td_cmp (ED.eq (d' := .str (opS o)) (ed_ix (ED.eq (d' := .tup [.str (opS o), .int n, y.e]) (ed_var 1 rfl) rfl) ed_int IX.t0) rfl) ed_str c2_eqS (by rfl)) (opS_lay o)) (fun hc6 => ?_) (fun hc6 => ?_))
      · skip
        cases hc6
      · skip
        clear hc6
        refine ws_nil ?_
        refine ws_cons (ws_if (td_tw (tw_and (TD.eq (td_cmp (ED.eq (d' := .str (opS o)) (ed_ix (ED.eq (d' := .tup [.str (opS o), .int n, y.e]) (ed_var 1 rfl) rfl) ed_int IX.t0) rfl) (ed_const KC.«SIZING» (by rfl)) (c2_inStr (ys := opL3) (.tup _)) (by rfl)) (opS_in o)) (fun hb8 => (tw_and1 (td_not (td_truth (ed_call G_is_size (hr.mono (by decide)) (by rfl) (ad_cons (ED.eq (d' := .str (opS o)) (ed_ix (ED.eq (d' := .tup [.str (opS o), .int n, y.e]) (ed_var 1 rfl) rfl) ed_int IX.t0) rfl) (ad_cons (ED.eq (d' := .int n) (ed_ix (ED.eq (d' := .tup [.str (opS o), .int n, y.e]) (ed_var 1 rfl) rfl) ed_int IX.t1) rfl) ad_nil)) (by exact .mk _ _)) rfl)))))) (fun hc7 => ?_) (fun hc7 => ?_))
        · skip
          have hsz : szE (opS o) n = false := by simpa using hc7
          refine ws_cons (ws_ret (ED.eq ed_bl ?_) (Or.inl rfl))
          first | (rw [okE_s hd1]; unfold okE; rw [hsz]; rfl) | (rw [okE_s hd1]; show D.bl ([okE L (dp - 1).toNat y].all id) = _; simp [okE, hsz])
        · skip
          have hsz : szE (opS o) n = true := by simpa using hc7
          refine ws_nil ?_
          refine ws_cons (ws_ret (ED.eq (ed_callB (id := "all") (by rfl) B.«all» bb_all (ad_cons (ed_lst (eo_map2 [("part", 3)] ((Ex.siz o n y).parts) (Ex.e) (fun y => okE L (dp - 1).toNat y) (D.bl) rfl nd (blkOk_by (N := ["layers", "expression", "depth", "part"]) (sc := defScope s_is_expression_over_z2) (by decide +kernel)) (id_tup (ed_call G_parts_of (hr.mono (by decide)) (by rfl) (ad_cons (ed_var 1 rfl) ad_nil) (by exact .mk (Ex.siz o n y)))) (rfl) (fun y hxm => ⟨_, by rfl, fun _ _ _ _ _ => ⟨(dg_name 3 nd), tds_nil, (ed_call G_is_expression_over_z1 (hr.mono (by decide)) (by rfl) (ad_cons (ed_var 0 rfl) (ad_cons (ed_var 3 rfl) (ad_cons (ed_bin (ed_var 2 rfl) ed_int (by walk_at "b2")) ad_nil))) (by exact .mk L _ (dp - 1) (by omega)))⟩⟩) (by rw [sizeLine_eq]; exact Nat.le_trans (parts_len _) (by decide)))) ad_nil) (bc_all rfl)) ?_) (Or.inl rfl))
          first | (rw [okE_s hd1]; unfold okE; rw [hsz]; rfl) | (rw [okE_s hd1]; show D.bl ([okE L (dp - 1).toNat y].all id) = _; simp [okE, hsz])
abbrev s_is_expression_over_z3 : Stmt := top 25
theorem sc_is_expression_over_z3 : FnScope ["layers", "expression", "depth", "part"] ["layers", "expression", "depth"] (defScope s_is_expression_over_z3) := ⟨rfl, rfl, rfl, by decide +kernel, rfl, by decide +kernel, by decide +kernel⟩
theorem ok_is_expression_over_z3 {f : Addr} {fd : FuncData} (F : Fun K "is_expression_over" "is_expression_over" s_is_expression_over_z3 f fd) (B : Bt mg) (KC : Kt K mg) (KL : Lt K mg) (WD : Zdt K w mg) (G_is_expression_over_z2 : Fn P w K mg base "is_expression_over" 4 R_is_expression_over_z2) (G_is_expression_over_z2 : Fn P w K mg base "is_expression_over" 4 R_is_expression_over_z2) (G_is_size : Fn P w K mg base "is_size" 1 R_is_size) (G_parts_of : Fn P w K mg base "parts_of" 1 R_parts_of) :
    FnOk P w K mg base CX0 5 f fd ["layers", "expression", "depth"] (spR K R_is_expression_over_z3) := by
  refine fn_ok (k := 4) F sc_is_expression_over_z3 (fun ds d h => by cases h <;> rfl) fun ds d hR cdv A outer s H E hr => ?_
  have nd := sc_is_expression_over_z3.nd
  have hu := hr.units
  rcases hR with ⟨L, x, dp, hd⟩
  walk_at "en"
  refine ws_cons (ws_if (td_cmp (ed_var 2 rfl) ed_int (by walk_at "c2")) (fun hc1 => ?_) (fun hc1 => ?_))
  · skip
    have hd1 := of_decide_eq_true hc1
    refine ws_cons (ws_ret (ED.eq ed_bl ?_) (Or.inl rfl))
    rw [okE_no hd1]
  · skip
    have hd1 := of_decide_eq_false hc1
    refine ws_nil ?_
    rcases x with n | ⟨o, l, r⟩ | ⟨o, n, y⟩
    · skip
      refine ws_cons (ws_if (TD.eq (td_cmp (ED.eq (d' := .str "layer") (ed_ix (ED.eq (d' := .tup [.str "layer", .str n]) (ed_var 1 rfl) rfl) ed_int IX.t0) rfl) ed_str c2_eqS (by rfl)) rfl) (fun hc2 => ?_) (fun hc2 => ?_))
      · skip
        clear hc2
        refine ws_cons (ws_ret (ED.eq (ed_cmp (ED.eq (d' := .str n) (ed_ix (ED.eq (d' := .tup [.str "layer", .str n]) (ed_var 1 rfl) rfl) ed_int IX.t1) rfl) (ed_var 0 rfl) (c2_inStr (ys := L) (.lst _)) (by rfl)) ?_) (Or.inl rfl))
        first | (rw [okE_s hd1]; rfl)
      · skip
        cases hc2
    · skip
      refine ws_cons (ws_if (TD.eq (td_cmp (ED.eq (d' := .str (opP o)) (ed_ix (ED.eq (d' := .tup [.str (opP o), l.e, r.e]) (ed_var 1 rfl) rfl) ed_int IX.t0) rfl) ed_str c2_eqS (by rfl)) (opP_lay o)) (fun hc3 => ?_) (fun hc3 => ?_))
      · skip
        cases hc3
      · skip
        clear hc3
        refine ws_nil ?_
        refine ws_cons (ws_if (td_tw (tw_and (k' := true) (TD.eq (td_cmp (ED.eq (d' := .str (opP o)) (ed_ix (ED.eq (d' := .tup [.str (opP o), l.e, r.e]) (ed_var 1 rfl) rfl) ed_int IX.t0) rfl) (ed_const KC.«SIZING» (by rfl)) (c2_inStr (ys := opL3) (.tup _)) (by rfl)) (opP_notS o)) (fun h => by cases h))) (fun hc4 => ?_) (fun hc4 => ?_))
        · skip
          simp at hc4
        · skip
          clear hc4
          refine ws_nil ?_
          refine ws_cons (ws_ret (ED.eq (ed_callB (id := "all") (by rfl) B.«all» bb_all (ad_cons (ed_lst (eo_map2 [("part", 3)] ((Ex.two o l r).parts) (Ex.e) (fun y => okE L (dp - 1).toNat y) (D.bl) rfl nd (blkOk_by (N := ["layers", "expression", "depth", "part"]) (sc := defScope s_is_expression_over_z3) (by decide +kernel)) (id_tup (ed_call G_parts_of (hr.mono (by decide)) (by rfl) (ad_cons (ed_var 1 rfl) ad_nil) (by exact .mk (Ex.two o l r)))) (rfl) (fun y hxm => ⟨_, by rfl, fun _ _ _ _ _ => ⟨(dg_name 3 nd), tds_nil, (ed_call G_is_expression_over_z2 (hr.mono (by decide)) (by rfl) (ad_cons (ed_var 0 rfl) (ad_cons (ed_var 3 rfl) (ad_cons (ed_bin (ed_var 2 rfl) ed_int (by walk_at "b2")) ad_nil))) (by exact .mk L _ (dp - 1) (by omega)))⟩⟩) (by rw [sizeLine_eq]; exact Nat.le_trans (parts_len _) (by decide)))) ad_nil) (bc_all rfl)) ?_) (Or.inl rfl))
          rw [okE_s hd1]
          show D.bl ([okE L (dp - 1).toNat l, okE L (dp - 1).toNat r].all id) = _
          simp [okE]
    · skip
      refine ws_cons (ws_if (TD.eq (td_cmp (ED.eq (d' := .str (opS o)) (ed_ix (ED.eq (d' := .tup [.str (opS o), .int n, y.e]) (ed_var 1 rfl) rfl) ed_int IX.t0) rfl) ed_str c2_eqS (by rfl)) (opS_lay o)) (fun hc6 => ?_) (fun hc6 => ?_))
      · skip
        cases hc6
      · skip
        clear hc6
        refine ws_nil ?_
        refine ws_cons (ws_if (td_tw (tw_and (TD.eq (td_cmp (ED.eq (d' := .str (opS o)) (ed_ix (ED.eq (d' := .tup [.str (opS o), .int n, y.e]) (ed_var 1 rfl) rfl) ed_int IX.t0) rfl) (ed_const KC.«SIZING» (by rfl)) (c2_inStr (ys := opL3) (.tup _)) (by rfl)) (opS_in o)) (fun hb8 => (tw_and1 (td_not (td_truth (ed_call G_is_size (hr.mono (by decide)) (by rfl) (ad_cons (ED.eq (d' := .str (opS o)) (ed_ix (ED.eq (d' := .tup [.str (opS o), .int n, y.e]) (ed_var 1 rfl) rfl) ed_int IX.t0) rfl) (ad_cons (ED.eq (d' := .int n) (ed_ix (ED.eq (d' := .tup [.str (opS o), .int n, y.e]) (ed_var 1 rfl) rfl) ed_int IX.t1) rfl) ad_nil)) (by exact .mk _ _)) rfl)))))) (fun hc7 => ?_) (fun hc7 => ?_))
        · skip
          have hsz : szE (opS o) n = false := by simpa using hc7
          refine ws_cons (ws_ret (ED.eq ed_bl ?_) (Or.inl rfl))
          first | (rw [okE_s hd1]; unfold okE; rw [hsz]; rfl) | (rw [okE_s hd1]; show D.bl ([okE L (dp - 1).toNat y].all id) = _; simp [okE, hsz])
        · skip
          have hsz : szE (opS o) n = true := by simpa using hc7
          refine ws_nil ?_
          refine ws_cons (ws_ret (ED.eq (ed_callB (id := "all") (by rfl) B.«all» bb_all (ad_cons (ed_lst (eo_map2 [("part", 3)] ((Ex.siz o n y).parts) (Ex.e) (fun y => okE L (dp - 1).toNat y) (D.bl) rfl nd (blkOk_by (N := ["layers", "expression", "depth", "part"]) (sc := defScope s_is_expression_over_z3) (by decide +kernel)) (id_tup (ed_call G_parts_of (hr.mono (by decide)) (by rfl) (ad_cons (ed_var 1 rfl) ad_nil) (by exact .mk (Ex.siz o n y)))) (rfl) (fun y hxm => ⟨_, by rfl, fun _ _ _ _ _ => ⟨(dg_name 3 nd), tds_nil, (ed_call G_is_expression_over_z2 (hr.mono (by decide)) (by rfl) (ad_cons (ed_var 0 rfl) (ad_cons (ed_var 3 rfl) (ad_cons (ed_bin (ed_var 2 rfl) ed_int (by walk_at "b2")) ad_nil))) (by exact .mk L _ (dp - 1) (by omega)))⟩⟩) (by rw [sizeLine_eq]; exact Nat.le_trans (parts_len _) (by decide)))) ad_nil) (bc_all rfl)) ?_) (Or.inl rfl))
          first | (rw [okE_s hd1]; unfold okE; rw [hsz]; rfl) | (rw [okE_s hd1]; show D.bl ([okE L (dp - 1).toNat y].all id) = _; simp [okE, hsz])
abbrev s_is_expression_over_z4 : Stmt := top 25
theorem sc_is_expression_over_z4 : FnScope ["layers", "expression", "depth", "part"] ["layers", "expression", "depth"] (defScope s_is_expression_over_z4) := ⟨rfl, rfl, rfl, by decide +kernel, rfl, by decide +kernel, by decide +kernel⟩
theorem ok_is_expression_over_z4 {f : Addr} {fd : FuncData} (F : Fun K "is_expression_over" "is_expression_over" s_is_expression_over_z4 f fd) (B : Bt mg) (KC : Kt K mg) (KL : Lt K mg) (WD : Zdt K w mg) (G_is_expression_over_z3 : Fn P w K mg base "is_expression_over" 5 R_is_expression_over_z3) (G_is_expression_over_z3 : Fn P w K mg base "is_expression_over" 5 R_is_expression_over_z3) (G_is_size : Fn P w K mg base "is_size" 1 R_is_size) (G_parts_of : Fn P w K mg base "parts_of" 1 R_parts_of) :
    FnOk P w K mg base CX0 6 f fd ["layers", "expression", "depth"] (spR K R_is_expression_over_z4) := by
  refine fn_ok (k := 5) F sc_is_expression_over_z4 (fun ds d h => by cases h <;> rfl) fun ds d hR cdv A outer s H E hr => ?_
  have nd := sc_is_expression_over_z4.nd
  have hu := hr.units
  rcases hR with ⟨L, x, dp, hd⟩
  walk_at "en"
  refine ws_cons (ws_if (td_cmp (ed_var 2 rfl) ed_int (by walk_at "c2")) (fun hc1 => ?_) (fun hc1 => ?_))
  · skip
    have hd1 := of_decide_eq_true hc1
    refine ws_cons (ws_ret (ED.eq ed_bl ?_) (Or.inl rfl))
    rw [okE_no hd1]
  · skip
    have hd1 := of_decide_eq_false hc1
    refine ws_nil ?_
    rcases x with n | ⟨o, l, r⟩ | ⟨o, n, y⟩
    · skip
      refine ws_cons (ws_if (TD.eq (td_cmp (ED.eq (d' := .str "layer") (ed_ix (ED.eq (d' := .tup [.str "layer", .str n]) (ed_var 1 rfl) rfl) ed_int IX.t0) rfl) ed_str c2_eqS (by rfl)) rfl) (fun hc2 => ?_) (fun hc2 => ?_))
      · skip
        clear hc2
        refine ws_cons (ws_ret (ED.eq (ed_cmp (ED.eq (d' := .str n) (ed_ix (ED.eq (d' := .tup [.str "layer", .str n]) (ed_var 1 rfl) rfl) ed_int IX.t1) rfl) (ed_var 0 rfl) (c2_inStr (ys := L) (.lst _)) (by rfl)) ?_) (Or.inl rfl))
        first | (rw [okE_s hd1]; rfl)
      · skip
        cases hc2
    · skip
      refine ws_cons (ws_if (TD.eq (td_cmp (ED.eq (d' := .str (opP o)) (ed_ix (ED.eq (d' := .tup [.str (opP o), l.e, r.e]) (ed_var 1 rfl) rfl) ed_int IX.t0) rfl) ed_str c2_eqS (by rfl)) (opP_lay o)) (fun hc3 => ?_) (fun hc3 => ?_))
      · skip
        cases hc3
      · skip
        clear hc3
        refine ws_nil ?_
        refine ws_cons (ws_if (td_tw (tw_and (k' := true) (TD.eq (td_cmp (ED.eq (d' := .str (opP o)) (ed_ix (ED.eq (d' := .tup [.str (opP o), l.e, r.e]) (ed_var 1 rfl) rfl) ed_int IX.t0) rfl) (ed_const KC.«SIZING» (by rfl)) (c2_inStr (ys := opL3) (.tup _)) (by rfl)) (opP_notS o)) (fun h => by cases h))) (fun hc4 => ?_) (fun hc4 => ?_))
        · skip
          simp at hc4
        · skip
          clear hc4
          refine ws_nil ?_
          refine ws_cons (ws_ret (ED.eq (ed_callB (id := "all") (by rfl) B.«all» bb_all (ad_cons (ed_lst (eo_map2 [("part", 3)] ((Ex.two o l r).parts) (Ex.e) (fun y => okE L (dp - 1).toNat y) (D.bl) rfl nd (blkOk_by (N := ["layers", "expression", "depth", "part"]) (sc := defScope s_is_expression_over_z4) (by decide +kernel)) (id_tup (ed_call G_parts_of (hr.mono (by decide)) (by rfl) (ad_cons (ed_var 1 rfl) ad_nil) (by exact .mk (Ex.two o l r)))) (rfl) (fun y hxm => ⟨_, by rfl, fun _ _ _ _ _ => ⟨(dg_name 3 nd), tds_nil, (ed_call G_is_expression_over_z3 (hr.mono (by decide)) (by rfl) (ad_cons (ed_var 0 rfl) (ad_cons (ed_var 3 rfl) (ad_cons (ed_bin (ed_var 2 rfl) ed_int (by walk_at "b2")) ad_nil))) (by exact .mk L _ (dp - 1) (by omega)))⟩⟩) (by rw [sizeLine_eq]; exact Nat.le_trans (parts_len _) (by decide)))) ad_nil) (bc_all rfl)) ?_) (Or.inl rfl))
          rw [okE_s hd1]
          show D.bl ([okE L (dp - 1).toNat l, okE L (dp - 1).toNat r].all id) = _
          simp [okE]
    · skip
      refine ws_cons (ws_if (TD.eq (td_cmp (ED.eq (d' := .str (opS o)) (ed_ix (ED.eq (d' := .tup [.str (opS o), .int n, y.e]) (ed_var 1 rfl) rfl) ed_int IX.t0) rfl) ed_str c2_eqS (by rfl)) (opS_lay o)) (fun hc6 => ?_) (fun hc6 => ?_))
      · skip
        cases hc6
      · skip
        clear hc6
        refine ws_nil ?_
        refine ws_cons (ws_if (td_tw (tw_and (TD.eq (td_cmp (ED.eq (d' := .str (opS o)) (ed_ix (ED.eq (d' := .tup [.str (opS o), .int n, y.e]) (ed_var 1 rfl) rfl) ed_int IX.t0) rfl) (ed_const KC.«SIZING» (by rfl)) (c2_inStr (ys := opL3) (.tup _)) (by rfl)) (opS_in o)) (fun hb8 => (tw_and1 (td_not (td_truth (ed_call G_is_size (hr.mono (by decide)) (by rfl) (ad_cons (ED.eq (d' := .str (opS o)) (ed_ix (ED.eq (d' := .tup [.str (opS o), .int n, y.e]) (ed_var 1 rfl) rfl) ed_int IX.t0) rfl) (ad_cons (ED.eq (d' := .int n) (ed_ix (ED.eq (d' := .tup [.str (opS o), .int n, y.e]) (ed_var 1 rfl) rfl) ed_int IX.t1) rfl) ad_nil)) (by exact .mk _ _)) rfl)))))) (fun hc7 => ?_) (fun hc7 => ?_))
        · skip
          have hsz : szE (opS o) n = false := by simpa using hc7
          refine ws_cons (ws_ret (ED.eq ed_bl ?_) (Or.inl rfl))
          first | (rw [okE_s hd1]; unfold okE; rw [hsz]; rfl) | (rw [okE_s hd1]; show D.bl ([okE L (dp - 1).toNat y].all id) = _; simp [okE, hsz])
        · skip
          have hsz : szE (opS o) n = true := by simpa using hc7
          refine ws_nil ?_
          refine ws_cons (ws_ret (ED.eq (ed_callB (id := "all") (by rfl) B.«all» bb_all (ad_cons (ed_lst (eo_map2 [("part", 3)] ((Ex.siz o n y).parts) (Ex.e) (fun y => okE L (dp - 1).toNat y) (D.bl) rfl nd (blkOk_by (N := ["layers", "expression", "depth", "part"]) (sc := defScope s_is_expression_over_z4) (by decide +kernel)) (id_tup (ed_call G_parts_of (hr.mono (by decide)) (by rfl) (ad_cons (ed_var 1 rfl) ad_nil) (by exact .mk (Ex.siz o n y)))) (rfl) (fun y hxm => ⟨_, by rfl, fun _ _ _ _ _ => ⟨(dg_name 3 nd), tds_nil, (ed_call G_is_expression_over_z3 (hr.mono (by decide)) (by rfl) (ad_cons (ed_var 0 rfl) (ad_cons (ed_var 3 rfl) (ad_cons (ed_bin (ed_var 2 rfl) ed_int (by walk_at "b2")) ad_nil))) (by exact .mk L _ (dp - 1) (by omega)))⟩⟩) (by rw [sizeLine_eq]; exact Nat.le_trans (parts_len _) (by decide)))) ad_nil) (bc_all rfl)) ?_) (Or.inl rfl))
          first | (rw [okE_s hd1]; unfold okE; rw [hsz]; rfl) | (rw [okE_s hd1]; show D.bl ([okE L (dp - 1).toNat y].all id) = _; simp [okE, hsz])
abbrev s_is_expression_over_z5 : Stmt := top 25
theorem sc_is_expression_over_z5 : FnScope ["layers", "expression", "depth", "part"] ["layers", "expression", "depth"] (defScope s_is_expression_over_z5) := ⟨rfl, rfl, rfl, by decide +kernel, rfl, by decide +kernel, by decide +kernel⟩
theorem ok_is_expression_over_z5 {f : Addr} {fd : FuncData} (F : Fun K "is_expression_over" "is_expression_over" s_is_expression_over_z5 f fd) (B : Bt mg) (KC : Kt K mg) (KL : Lt K mg) (WD : Zdt K w mg) (G_is_expression_over_z4 : Fn P w K mg base "is_expression_over" 6 R_is_expression_over_z4) (G_is_expression_over_z4 : Fn P w K mg base "is_expression_over" 6 R_is_expression_over_z4) (G_is_size : Fn P w K mg base "is_size" 1 R_is_size) (G_parts_of : Fn P w K mg base "parts_of" 1 R_parts_of) :
    FnOk P w K mg base CX0 7 f fd ["layers", "expression", "depth"] (spR K R_is_expression_over_z5) := by
  refine fn_ok (k := 6) F sc_is_expression_over_z5 (fun ds d h => by cases h <;> rfl) fun ds d hR cdv A outer s H E hr => ?_
  have nd := sc_is_expression_over_z5.nd
  have hu := hr.units
  rcases hR with ⟨L, x, dp, hd⟩
  walk_at "en"
  refine ws_cons (ws_if (td_cmp (ed_var 2 rfl) ed_int (by walk_at "c2")) (fun hc1 => ?_) (fun hc1 => ?_))
  · skip
    have hd1 := of_decide_eq_true hc1
    refine ws_cons (ws_ret (ED.eq ed_bl ?_) (Or.inl rfl))
    rw [okE_no hd1]
  · skip
    have hd1 := of_decide_eq_false hc1
    refine ws_nil ?_
    rcases x with n | ⟨o, l, r⟩ | ⟨o, n, y⟩
    · skip
      refine ws_cons (ws_if (TD.eq (td_cmp (ED.eq (d' := .str "layer") (ed_ix (ED.eq (d' := .tup [.str "layer", .str n]) (ed_var 1 rfl) rfl) ed_int IX.t0) rfl) ed_str c2_eqS (by rfl)) rfl) (fun hc2 => ?_) (fun hc2 => ?_))
      · skip
        clear hc2
        refine ws_cons (ws_ret (ED.eq (ed_cmp (ED.eq (d' := .str n) (ed_ix (ED.eq (d' := .tup [.str "layer", .str n]) (ed_var 1 rfl) rfl) ed_int IX.t1) rfl) (ed_var 0 rfl) (c2_inStr (ys := L) (.lst _)) (by rfl)) ?_) (Or.inl rfl))
        first | (rw [okE_s hd1]; rfl)
      · skip
        cases hc2
    · skip
      refine ws_cons (ws_if (TD.eq (td_cmp (ED.eq (d' := .str (opP o)) (ed_ix (ED.eq (d' := .tup [.str (opP o), l.e, r.e]) (ed_var 1 rfl) rfl) ed_int IX.t0) rfl) ed_str c2_eqS (by rfl)) (opP_lay o)) (fun hc3 => ?_) (fun hc3 => ?_))
      · skip
        cases hc3
      · skip
        clear hc3
        refine ws_nil ?_
        refine ws_cons (ws_if (td_tw (tw_and (k' := true) (TD.eq (td_cmp (ED.eq (d' := .str (opP o)) (ed_ix (ED.eq (d' := .tup [.str (opP o), l.e, r.e]) (ed_var 1 rfl) rfl) ed_int IX.t0) rfl) (ed_const KC.«SIZING» (by rfl)) (c2_inStr (ys := opL3) (.tup _)) (by rfl)) (opP_notS o)) (fun h => by cases h))) (fun hc4 => ?_) (fun hc4 => ?_))
        · skip
          simp at hc4
        · skip
          clear hc4
          refine ws_nil ?_
          refine ws_cons (ws_ret (ED.eq (ed_callB (id := "all") (by rfl) B.«all» bb_all (ad_cons (ed_lst (eo_map2 [("part", 3)] ((Ex.two o l r).parts) (Ex.e) (fun y => okE L (dp - 1).toNat y) (D.bl) rfl nd (blkOk_by (N := ["layers", "expression", "depth", "part"]) (sc := defScope s_is_expression_over_z5) (by decide +kernel)) (id_tup (ed_call G_parts_of (hr.mono (by decide)) (by rfl) (ad_cons (ed_var 1 rfl) ad_nil) (by exact .mk (Ex.two o l r)))) (rfl) (fun y hxm => ⟨_, by rfl, fun _ _ _ _ _ => ⟨(dg_name 3 nd), tds_nil, (ed_call G_is_expression_over_z4 (hr.mono (by decide)) (by rfl) (ad_cons (ed_var 0 rfl) (ad_cons (ed_var 3 rfl) (ad_cons (ed_bin (ed_var 2 rfl) ed_int (by walk_at "b2")) ad_nil))) (by exact .mk L _ (dp - 1) (by omega)))⟩⟩) (by rw [sizeLine_eq]; exact Nat.le_trans (parts_len _) (by decide)))) ad_nil) (bc_all rfl)) ?_) (Or.inl rfl))
          rw [okE_s hd1]
          show D.bl ([okE L (dp - 1).toNat l, okE L (dp - 1).toNat r].all id) = _
          simp [okE]
    · skip
      refine ws_cons (ws_if (TD.eq (td_cmp (ED.eq (d' := .str (opS o)) (ed_ix (ED.eq (d' := .tup [.str (opS o), .int n, y.e]) (ed_var 1 rfl) rfl) ed_int IX.t0) rfl) ed_str c2_eqS (by rfl)) (opS_lay o)) (fun hc6 => ?_) (fun hc6 => ?_))
      · skip
        cases hc6
      · skip
        clear hc6
        refine ws_nil ?_
        refine ws_cons (ws_if (td_tw (tw_and (TD.eq (td_cmp (ED.eq (d' := .str (opS o)) (ed_ix (ED.eq (d' := .tup [.str (opS o), .int n, y.e]) (ed_var 1 rfl) rfl) ed_int IX.t0) rfl) (ed_const KC.«SIZING» (by rfl)) (c2_inStr (ys := opL3) (.tup _)) (by rfl)) (opS_in o)) (fun hb8 => (tw_and1 (td_not (td_truth (ed_call G_is_size (hr.mono (by decide)) (by rfl) (ad_cons (ED.eq (d' := .str (opS o)) (ed_ix (ED.eq (d' := .tup [.str (opS o), .int n, y.e]) (ed_var 1 rfl) rfl) ed_int IX.t0) rfl) (ad_cons (ED.eq (d' := .int n) (ed_ix (ED.eq (d' := .tup [.str (opS o), .int n, y.e]) (ed_var 1 rfl) rfl) ed_int IX.t1) rfl) ad_nil)) (by exact .mk _ _)) rfl)))))) (fun hc7 => ?_) (fun hc7 => ?_))
        · skip
          have hsz : szE (opS o) n = false := by simpa using hc7
          refine ws_cons (ws_ret (ED.eq ed_bl ?_) (Or.inl rfl))
          first | (rw [okE_s hd1]; unfold okE; rw [hsz]; rfl) | (rw [okE_s hd1]; show D.bl ([okE L (dp - 1).toNat y].all id) = _; simp [okE, hsz])
        · skip
          have hsz : szE (opS o) n = true := by simpa using hc7
          refine ws_nil ?_
          refine ws_cons (ws_ret (ED.eq (ed_callB (id := "all") (by rfl) B.«all» bb_all (ad_cons (ed_lst (eo_map2 [("part", 3)] ((Ex.siz o n y).parts) (Ex.e) (fun y => okE L (dp - 1).toNat y) (D.bl) rfl nd (blkOk_by (N := ["layers", "expression", "depth", "part"]) (sc := defScope s_is_expression_over_z5) (by decide +kernel)) (id_tup (ed_call G_parts_of (hr.mono (by decide)) (by rfl) (ad_cons (ed_var 1 rfl) ad_nil) (by exact .mk (Ex.siz o n y)))) (rfl) (fun y hxm => ⟨_, by rfl, fun _ _ _ _ _ => ⟨(dg_name 3 nd), tds_nil, (ed_call G_is_expression_over_z4 (hr.mono (by decide)) (by rfl) (ad_cons (ed_var 0 rfl) (ad_cons (ed_var 3 rfl) (ad_cons (ed_bin (ed_var 2 rfl) ed_int (by walk_at "b2")) ad_nil))) (by exact .mk L _ (dp - 1) (by omega)))⟩⟩) (by rw [sizeLine_eq]; exact Nat.le_trans (parts_len _) (by decide)))) ad_nil) (bc_all rfl)) ?_) (Or.inl rfl))
          first | (rw [okE_s hd1]; unfold okE; rw [hsz]; rfl) | (rw [okE_s hd1]; show D.bl ([okE L (dp - 1).toNat y].all id) = _; simp [okE, hsz])
abbrev s_is_expression_over_z6 : Stmt := top 25
theorem sc_is_expression_over_z6 : FnScope ["layers", "expression", "depth", "part"] ["layers", "expression", "depth"] (defScope s_is_expression_over_z6) := ⟨rfl, rfl, rfl, by decide +kernel, rfl, by decide +kernel, by decide +kernel⟩
theorem ok_is_expression_over_z6 {f : Addr} {fd : FuncData} (F : Fun K "is_expression_over" "is_expression_over" s_is_expression_over_z6 f fd) (B : Bt mg) (KC : Kt K mg) (KL : Lt K mg) (WD : Zdt K w mg) (G_is_expression_over_z5 : Fn P w K mg base "is_expression_over" 7 R_is_expression_over_z5) (G_is_expression_over_z5 : Fn P w K mg base "is_expression_over" 7 R_is_expression_over_z5) (G_is_size : Fn P w K mg base "is_size" 1 R_is_size) (G_parts_of : Fn P w K mg base "parts_of" 1 R_parts_of) :
    FnOk P w K mg base CX0 8 f fd ["layers", "expression", "depth"] (spR K R_is_expression_over_z6) := by
  refine fn_ok (k := 7) F sc_is_expression_over_z6 (fun ds d h => by cases h <;> rfl) fun ds d hR cdv A outer s H E hr => ?_
  have nd := sc_is_expression_over_z6.nd
  have hu := hr.units
  rcases hR with ⟨L, x, dp, hd⟩
  walk_at "en"
  refine ws_cons (ws_if (td_cmp (ed_var 2 rfl) ed_int (by walk_at "c2")) (fun hc1 => ?_) (fun hc1 => ?_))
  · skip
    have hd1 := of_decide_eq_true hc1
    refine ws_cons (ws_ret (ED.eq ed_bl ?_) (Or.inl rfl))
    rw [okE_no hd1]
  · skip
    have hd1 := of_decide_eq_false hc1
    refine ws_nil ?_
    rcases x with n | ⟨o, l, r⟩ | ⟨o, n, y⟩
    · skip
      refine ws_cons (ws_if (TD.eq (td_cmp (ED.eq (d' := .str "layer") (ed_ix (ED.eq (d' := .tup [.str "layer", .str n]) (ed_var 1 rfl) rfl) ed_int IX.t0) rfl) ed_str c2_eqS (by rfl)) rfl) (fun hc2 => ?_) (fun hc2 => ?_))
      · skip
        clear hc2
        refine ws_cons (ws_ret (ED.eq (ed_cmp (ED.eq (d' := .str n) (ed_ix (ED.eq (d' := .tup [.str "layer", .str n]) (ed_var 1 rfl) rfl) ed_int IX.t1) rfl) (ed_var 0 rfl) (c2_inStr (ys := L) (.lst _)) (by rfl)) ?_) (Or.inl rfl))
        first | (rw [okE_s hd1]; rfl)
      · skip
        cases hc2
    · skip
      refine ws_cons (ws_if (TD.eq (td_cmp (ED.eq (d' := .str (opP o)) (ed_ix (ED.eq (d' := .tup [.str (opP o), l.e, r.e]) (ed_var 1 rfl) rfl) ed_int IX.t0) rfl) ed_str c2_eqS (by rfl)) (opP_lay o)) (fun hc3 => ?_) (fun hc3 => ?_))
      · skip
        cases hc3
      · skip
        clear hc3
        refine ws_nil ?_
        refine ws_cons (ws_if (td_tw (tw_and (k' := true) (TD.eq (td_cmp (ED.eq (d' := .str (opP o)) (ed_ix (ED.eq (d' := .tup [.str (opP o), l.e, r.e]) (ed_var 1 rfl) rfl) ed_int IX.t0) rfl) (ed_const KC.«SIZING» (by rfl)) (c2_inStr (ys := opL3) (.tup _)) (by rfl)) (opP_notS o)) (fun h => by cases h))) (fun hc4 => ?_) (fun hc4 => ?_))
        · skip
          simp at hc4
        · skip
          clear hc4
          refine ws_nil ?_
          refine ws_cons (ws_ret (ED.eq (ed_callB (id := "all") (by rfl) B.«all» bb_all (ad_cons (ed_lst (eo_map2 [("part", 3)] ((Ex.two o l r).parts) (Ex.e) (fun y => okE L (dp - 1).toNat y) (D.bl) rfl nd (blkOk_by (N := ["layers", "expression", "depth", "part"]) (sc := defScope s_is_expression_over_z6) (by decide +kernel)) (id_tup (ed_call G_parts_of (hr.mono (by decide)) (by rfl) (ad_cons (ed_var 1 rfl) ad_nil) (by exact .mk (Ex.two o l r)))) (rfl) (fun y hxm => ⟨_, by rfl, fun _ _ _ _ _ => ⟨(dg_name 3 nd), tds_nil, (ed_call G_is_expression_over_z5 (hr.mono (by decide)) (by rfl) (ad_cons (ed_var 0 rfl) (ad_cons (ed_var 3 rfl) (ad_cons (ed_bin (ed_var 2 rfl) ed_int (by walk_at "b2")) ad_nil))) (by exact .mk L _ (dp - 1) (by omega)))⟩⟩) (by rw [sizeLine_eq]; exact Nat.le_trans (parts_len _) (by decide)))) ad_nil) (bc_all rfl)) ?_) (Or.inl rfl))
          rw [okE_s hd1]
          show D.bl ([okE L (dp - 1).toNat l, okE L (dp - 1).toNat r].all id) = _
          simp [okE]
    · skip
      refine ws_cons (ws_if (TD.eq (td_cmp (ED.eq (d' := .str (opS o)) (ed_ix (ED.eq (d' := .tup [.str (opS o), .int n, y.e]) (ed_var 1 rfl) rfl) ed_int IX.t0) rfl) ed_str c2_eqS (by rfl)) (opS_lay o)) (fun hc6 => ?_) (fun hc6 => ?_))
      · skip
        cases hc6
      · skip
        clear hc6
        refine ws_nil ?_
        refine ws_cons (ws_if (td_tw (tw_and (TD.eq (td_cmp (ED.eq (d' := .str (opS o)) (ed_ix (ED.eq (d' := .tup [.str (opS o), .int n, y.e]) (ed_var 1 rfl) rfl) ed_int IX.t0) rfl) (ed_const KC.«SIZING» (by rfl)) (c2_inStr (ys := opL3) (.tup _)) (by rfl)) (opS_in o)) (fun hb8 => (tw_and1 (td_not (td_truth (ed_call G_is_size (hr.mono (by decide)) (by rfl) (ad_cons (ED.eq (d' := .str (opS o)) (ed_ix (ED.eq (d' := .tup [.str (opS o), .int n, y.e]) (ed_var 1 rfl) rfl) ed_int IX.t0) rfl) (ad_cons (ED.eq (d' := .int n) (ed_ix (ED.eq (d' := .tup [.str (opS o), .int n, y.e]) (ed_var 1 rfl) rfl) ed_int IX.t1) rfl) ad_nil)) (by exact .mk _ _)) rfl)))))) (fun hc7 => ?_) (fun hc7 => ?_))
        · skip
          have hsz : szE (opS o) n = false := by simpa using hc7
          refine ws_cons (ws_ret (ED.eq ed_bl ?_) (Or.inl rfl))
          first | (rw [okE_s hd1]; unfold okE; rw [hsz]; rfl) | (rw [okE_s hd1]; show D.bl ([okE L (dp - 1).toNat y].all id) = _; simp [okE, hsz])
        · skip
          have hsz : szE (opS o) n = true := by simpa using hc7
          refine ws_nil ?_
          refine ws_cons (ws_ret (ED.eq (ed_callB (id := "all") (by rfl) B.«all» bb_all (ad_cons (ed_lst (eo_map2 [("part", 3)] ((Ex.siz o n y).parts) (Ex.e) (fun y => okE L (dp - 1).toNat y) (D.bl) rfl nd (blkOk_by (N := ["layers", "expression", "depth", "part"]) (sc := defScope s_is_expression_over_z6) (by decide +kernel)) (id_tup (ed_call G_parts_of (hr.mono (by decide)) (by rfl) (ad_cons (ed_var 1 rfl) ad_nil) (by exact .mk (Ex.siz o n y)))) (rfl) (fun y hxm => ⟨_, by rfl, fun _ _ _ _ _ => ⟨(dg_name 3 nd), tds_nil, (ed_call G_is_expression_over_z5 (hr.mono (by decide)) (by rfl) (ad_cons (ed_var 0 rfl) (ad_cons (ed_var 3 rfl) (ad_cons (ed_bin (ed_var 2 rfl) ed_int (by walk_at "b2")) ad_nil))) (by exact .mk L _ (dp - 1) (by omega)))⟩⟩) (by rw [sizeLine_eq]; exact Nat.le_trans (parts_len _) (by decide)))) ad_nil) (bc_all rfl)) ?_) (Or.inl rfl))
          first | (rw [okE_s hd1]; unfold okE; rw [hsz]; rfl) | (rw [okE_s hd1]; show D.bl ([okE L (dp - 1).toNat y].all id) = _; simp [okE, hsz])
abbrev s_is_expression_over_z7 : Stmt := top 25
theorem sc_is_expression_over_z7 : FnScope ["layers", "expression", "depth", "part"] ["layers", "expression", "depth"] (defScope s_is_expression_over_z7) := ⟨rfl, rfl, rfl, by decide +kernel, rfl, by decide +kernel, by decide +kernel⟩
theorem ok_is_expression_over_z7 {f : Addr} {fd : FuncData} (F : Fun K "is_expression_over" "is_expression_over" s_is_expression_over_z7 f fd) (B : Bt mg) (KC : Kt K mg) (KL : Lt K mg) (WD : Zdt K w mg) (G_is_expression_over_z6 : Fn P w K mg base "is_expression_over" 8 R_is_expression_over_z6) (G_is_expression_over_z6 : Fn P w K mg base "is_expression_over" 8 R_is_expression_over_z6) (G_is_size : Fn P w K mg base "is_size" 1 R_is_size) (G_parts_of : Fn P w K mg base "parts_of" 1 R_parts_of) :
    FnOk P w K mg base CX0 9 f fd ["layers", "expression", "depth"] (spR K R_is_expression_over_z7) := by
  refine fn_ok (k := 8) F sc_is_expression_over_z7 (fun ds d h => by cases h <;> rfl) fun ds d hR cdv A outer s H E hr => ?_
  have nd := sc_is_expression_over_z7.nd
  have hu := hr.units
  rcases hR with ⟨L, x, dp, hd⟩
  walk_at "en"
  refine ws_cons (ws_if (td_cmp (ed_var 2 rfl) ed_int (by walk_at "c2")) (fun hc1 => ?_) (fun hc1 => ?_))
  · skip
    have hd1 := of_decide_eq_true hc1
    refine ws_cons (ws_ret (ED.eq ed_bl ?_) (Or.inl rfl))
    rw [okE_no hd1]
  · skip
    have hd1 := of_decide_eq_false hc1
    refine ws_nil ?_
    rcases x with n | ⟨o, l, r⟩ | ⟨o, n, y⟩
    · skip
      refine ws_cons (ws_if (TD.eq (td_cmp (ED.eq (d' := .str "layer") (ed_ix (ED.eq (d' := .tup [.str "layer", .str n]) (ed_var 1 rfl) rfl) ed_int IX.t0) rfl) ed_str c2_eqS (by rfl)) rfl) (fun hc2 => ?_) (fun hc2 => ?_))
      · skip
        clear hc2
        refine ws_cons (ws_ret (ED.eq (ed_cmp (ED.eq (d' := .str n) (ed_ix (ED.eq (d' := .tup [.str "layer", .str n]) (ed_var 1 rfl) rfl) ed_int IX.t1) rfl) (ed_var 0 rfl) (c2_inStr (ys := L) (.lst _)) (by rfl)) ?_) (Or.inl rfl))
        first | (rw [okE_s hd1]; rfl)
      · skip
        cases hc2
    · skip
      refine ws_cons (ws_if (TD.eq (td_cmp (ED.eq (d' := .str (opP o)) (ed_ix (ED.eq (d' := .tup [.str (opP o), l.e, r.e]) (ed_var 1 rfl) rfl) ed_int IX.t0) rfl) ed_str c2_eqS (by rfl)) (opP_lay o)) (fun hc3 => ?_) (fun hc3 => ?_))
      · skip
        cases hc3
      · skip
        clear hc3
        refine ws_nil ?_
        refine ws_cons (ws_if (td_tw (tw_and (k' := true) (TD.eq (td_cmp (ED.eq (d' := .str (opP o)) (ed_ix (ED.eq (d' := .tup [.str (opP o), l.e, r.e]) (ed_var 1 rfl) rfl) ed_int IX.t0) rfl) (ed_const KC.«SIZING» (by rfl)) (c2_inStr (ys := opL3) (.tup _)) (by rfl)) (opP_notS o)) (fun h => by cases h))) (fun hc4 => ?_) (fun hc4 => ?_))
        · skip
          simp at hc4
        · skip
          clear hc4
          refine ws_nil ?_
          refine ws_cons (ws_ret (ED.eq (ed_callB (id := "all") (by rfl) B.«all» bb_all (ad_cons (ed_lst (eo_map2 [("part", 3)] ((Ex.two o l r).parts) (Ex.e) (fun y => okE L (dp - 1).toNat y) (D.bl) rfl nd (blkOk_by (N := ["layers", "expression", "depth", "part"]) (sc := defScope s_is_expression_over_z7) (by decide +kernel)) (id_tup (ed_call G_parts_of (hr.mono (by decide)) (by rfl) (ad_cons (ed_var 1 rfl) ad_nil) (by exact .mk (Ex.two o l r)))) (rfl) (fun y hxm => ⟨_, by rfl, fun _ _ _ _ _ => ⟨(dg_name 3 nd), tds_nil, (ed_call G_is_expression_over_z6 (hr.mono (by decide)) (by rfl) (ad_cons (ed_var 0 rfl) (ad_cons (ed_var 3 rfl) (ad_cons (ed_bin (ed_var 2 rfl) ed_int (by walk_at "b2")) ad_nil))) (by exact .mk L _ (dp - 1) (by omega)))⟩⟩) (by rw [sizeLine_eq]; exact Nat.le_trans (parts_len _) (by decide)))) ad_nil) (bc_all rfl)) ?_) (Or.inl rfl))
          rw [okE_s hd1]
          show D.bl ([okE L (dp - 1).toNat l, okE L (dp - 1).toNat r].all id) = _
          simp [okE]
    · skip
      refine ws_cons (ws_if (TD.eq (td_cmp (ED.eq (d' := .str (opS o)) (ed_ix (ED.eq (d' := .tup [.str (opS o), .int n, y.e]) (ed_var 1 rfl) rfl) ed_int IX.t0) rfl) ed_str c2_eqS (by rfl)) (opS_lay o)) (fun hc6 => ?_) (fun hc6 => ?_))
      · skip
        cases hc6
      · skip
        clear hc6
        refine ws_nil ?_
        refine ws_cons (ws_if (td_tw (tw_and (TD.eq (td_cmp (ED.eq (d' := .str (opS o)) (ed_ix (ED.eq (d' := .tup [.str (opS o), .int n, y.e]) (ed_var 1 rfl) rfl) ed_int IX.t0) rfl) (ed_const KC.«SIZING» (by rfl)) (c2_inStr (ys := opL3) (.tup _)) (by rfl)) (opS_in o)) (fun hb8 => (tw_and1 (td_not (td_truth (ed_call G_is_size (hr.mono (by decide)) (by rfl) (ad_cons (ED.eq (d' := .str (opS o)) (ed_ix (ED.eq (d' := .tup [.str (opS o), .int n, y.e]) (ed_var 1 rfl) rfl) ed_int IX.t0) rfl) (ad_cons (ED.eq (d' := .int n) (ed_ix (ED.eq (d' := .tup [.str (opS o), .int n, y.e]) (ed_var 1 rfl) rfl) ed_int IX.t1) rfl) ad_nil)) (by exact .mk _ _)) rfl)))))) (fun hc7 => ?_) (fun hc7 => ?_))
        · skip
          have hsz : szE (opS o) n = false := by simpa using hc7
          refine ws_cons (ws_ret (ED.eq ed_bl ?_) (Or.inl rfl))
          first | (rw [okE_s hd1]; unfold okE; rw [hsz]; rfl) | (rw [okE_s hd1]; show D.bl ([okE L (dp - 1).toNat y].all id) = _; simp [okE, hsz])
        · skip
          have hsz : szE (opS o) n = true := by simpa using hc7
          refine ws_nil ?_
          refine ws_cons (ws_ret (ED.eq (ed_callB (id := "all") (by rfl) B.«all» bb_all (ad_cons (ed_lst (eo_map2 [("part", 3)] ((Ex.siz o n y).parts) (Ex.e) (fun y => okE L (dp - 1).toNat y) (D.bl) rfl nd (blkOk_by (N := ["layers", "expression", "depth", "part"]) (sc := defScope s_is_expression_over_z7) (by decide +kernel)) (id_tup (ed_call G_parts_of (hr.mono (by decide)) (by rfl) (ad_cons (ed_var 1 rfl) ad_nil) (by exact .mk (Ex.siz o n y)))) (rfl) (fun y hxm => ⟨_, by rfl, fun _ _ _ _ _ => ⟨(dg_name 3 nd), tds_nil, (ed_call G_is_expression_over_z6 (hr.mono (by decide)) (by rfl) (ad_cons (ed_var 0 rfl) (ad_cons (ed_var 3 rfl) (ad_cons (ed_bin (ed_var 2 rfl) ed_int (by walk_at "b2")) ad_nil))) (by exact .mk L _ (dp - 1) (by omega)))⟩⟩) (by rw [sizeLine_eq]; exact Nat.le_trans (parts_len _) (by decide)))) ad_nil) (bc_all rfl)) ?_) (Or.inl rfl))
          first | (rw [okE_s hd1]; unfold okE; rw [hsz]; rfl) | (rw [okE_s hd1]; show D.bl ([okE L (dp - 1).toNat y].all id) = _; simp [okE, hsz])
abbrev s_is_expression_over_z8 : Stmt := top 25
theorem sc_is_expression_over_z8 : FnScope ["layers", "expression", "depth", "part"] ["layers", "expression", "depth"] (defScope s_is_expression_over_z8) := ⟨rfl, rfl, rfl, by decide +kernel, rfl, by decide +kernel, by decide +kernel⟩
theorem ok_is_expression_over_z8 {f : Addr} {fd : FuncData} (F : Fun K "is_expression_over" "is_expression_over" s_is_expression_over_z8 f fd) (B : Bt mg) (KC : Kt K mg) (KL : Lt K mg) (WD : Zdt K w mg) (G_is_expression_over_z7 : Fn P w K mg base "is_expression_over" 9 R_is_expression_over_z7) (G_is_expression_over_z7 : Fn P w K mg base "is_expression_over" 9 R_is_expression_over_z7) (G_is_size : Fn P w K mg base "is_size" 1 R_is_size) (G_parts_of : Fn P w K mg base "parts_of" 1 R_parts_of) :
    FnOk P w K mg base CX0 10 f fd ["layers", "expression", "depth"] (spR K R_is_expression_over_z8) := by
  refine fn_ok (k := 9) F sc_is_expression_over_z8 (fun ds d h => by cases h <;> rfl) fun ds d hR cdv A outer s H E hr => ?_
  have nd := sc_is_expression_over_z8.nd
  have hu := hr.units
  rcases hR with ⟨L, x, dp, hd⟩
  walk_at "en"
  refine ws_cons (ws_if (td_cmp (ed_var 2 rfl) ed_int (by walk_at "c2")) (fun hc1 => ?_) (fun hc1 => ?_))
  · skip
    have hd1 := of_decide_eq_true hc1
    refine ws_cons (ws_ret (ED.eq ed_bl ?_) (Or.inl rfl))
    rw [okE_no hd1]
  · skip
    have hd1 := of_decide_eq_false hc1
    refine ws_nil ?_
    rcases x with n | ⟨o, l, r⟩ | ⟨o, n, y⟩
    · skip
      refine ws_cons (ws_if (TD.eq (td_cmp (ED.eq (d' := .str "layer") (ed_ix (ED.eq (d' := .tup [.str "layer", .str n]) (ed_var 1 rfl) rfl) ed_int IX.t0) rfl) ed_str c2_eqS (by rfl)) rfl) (fun hc2 => ?_) (fun hc2 => ?_))
      · skip
        clear hc2
        refine ws_cons (ws_ret (ED.eq (ed_cmp (ED.eq (d' := .str n) (ed_ix (ED.eq (d' := .tup [.str "layer", .str n]) (ed_var 1 rfl) rfl) ed_int IX.t1) rfl) (ed_var 0 rfl) (c2_inStr (ys := L) (.lst _)) (by rfl)) ?_) (Or.inl rfl))
        first | (rw [okE_s hd1]; rfl)
      · skip
        cases hc2
    · skip
      refine ws_cons (ws_if (TD.eq (td_cmp (ED.eq (d' := .str (opP o)) (ed_ix (ED.eq (d' := .tup [.str (opP o), l.e, r.e]) (ed_var 1 rfl) rfl) ed_int IX.t0) rfl) ed_str c2_eqS (by rfl)) (opP_lay o)) (fun hc3 => ?_) (fun hc3 => ?_))
      · skip
        cases hc3
      · skip
        clear hc3
        refine ws_nil ?_
        refine ws_cons (ws_if (td_tw (tw_and (k' := true) (TD.eq (td_cmp (ED.eq (d' := .str (opP o)) (ed_ix (ED.eq (d' := .tup [.str (opP o), l.e, r.e]) (ed_var 1 rfl) rfl) ed_int IX.t0) rfl) (ed_const KC.«SIZING» (by rfl)) (c2_inStr (ys := opL3) (.tup _)) (by rfl)) (opP_notS o)) (fun h => by cases h))) (fun hc4 => ?_) (fun hc4 => ?_))
        · skip
          simp at hc4
        · skip
          clear hc4
          refine ws_nil ?_
          refine ws_cons (ws_ret (ED.eq (ed_callB (id := "all") (by rfl) B.«all» bb_all (ad_cons (ed_lst (eo_map2 [("part", 3)] ((Ex.two o l r).parts) (Ex.e) (fun y => okE L (dp - 1).toNat y) (D.bl) rfl nd (blkOk_by (N := ["layers", "expression", "depth", "part"]) (sc := defScope s_is_expression_over_z8) (by decide +kernel)) (id_tup (ed_call G_parts_of (hr.mono (by decide)) (by rfl) (ad_cons (ed_var 1 rfl) ad_nil) (by exact .mk (Ex.two o l r)))) (rfl) (fun y hxm => ⟨_, by rfl, fun _ _ _ _ _ => ⟨(dg_name 3 nd), tds_nil, (ed_call G_is_expression_over_z7 (hr.mono (by decide)) (by rfl) (ad_cons (ed_var 0 rfl) (ad_cons (ed_var 3 rfl) (ad_cons (ed_bin (ed_var 2 rfl) ed_int (by walk_at "b2")) ad_nil))) (by exact .mk L _ (dp - 1) (by omega)))⟩⟩) (by rw [sizeLine_eq]; exact Nat.le_trans (parts_len _) (by decide)))) ad_nil) (bc_all rfl)) ?_) (Or.inl rfl))
          rw [okE_s hd1]
          show D.bl ([okE L (dp - 1).toNat l, okE L (dp - 1).toNat r].all id) = _
          simp [okE]
    · skip
      refine ws_cons (ws_if (TD.eq (td_cmp (ED.eq (d' := .str (opS o)) (ed_ix (ED.eq (d' := .tup [.str (opS o), .int n, y.e]) (ed_var 1 rfl) rfl) ed_int IX.t0) rfl) ed_str c2_eqS (by rfl)) (opS_lay o)) (fun hc6 => ?_) (fun hc6 => ?_))
      · skip
        cases hc6
      · skip
        clear hc6
        refine ws_nil ?_
        refine ws_cons (ws_if (td_tw (tw_and (TD.eq (td_cmp (ED.eq (d' := .str (opS o)) (ed_ix (ED.eq (d' := .tup [.str (opS o), .int n, y.e]) (ed_var 1 rfl) rfl) ed_int IX.t0) rfl) (ed_const KC.«SIZING» (by rfl)) (c2_inStr (ys := opL3) (.tup _)) (by rfl)) (opS_in o)) (fun hb8 => (tw_and1 (td_not (td_truth (ed_call G_is_size (hr.mono (by decide)) (by rfl) (ad_cons (ED.eq (d' := .str (opS o)) (ed_ix (ED.eq (d' := .tup [.str (opS o), .int n, y.e]) (ed_var 1 rfl) rfl) ed_int IX.t0) rfl) (ad_cons (ED.eq (d' := .int n) (ed_ix (ED.eq (d' := .tup [.str (opS o), .int n, y.e]) (ed_var 1 rfl) rfl) ed_int IX.t1) rfl) ad_nil)) (by exact .mk _ _)) rfl)))))) (fun hc7 => ?_) (fun hc7 => ?_))
        · skip
          have hsz : szE (opS o) n = false := by simpa using hc7
          refine ws_cons (ws_ret (ED.eq ed_bl ?_) (Or.inl rfl))
          first | (rw [okE_s hd1]; unfold okE; rw [hsz]; rfl) | (rw [okE_s hd1]; show D.bl ([okE L (dp - 1).toNat y].all id) = _; simp [okE, hsz])
        · skip
          have hsz : szE (opS o) n = true := by simpa using hc7
          refine ws_nil ?_
          refine ws_cons (ws_ret (ED.eq (ed_callB (id := "all") (by rfl) B.«all» bb_all (ad_cons (ed_lst (eo_map2 [("part", 3)] ((Ex.siz o n y).parts) (Ex.e) (fun y => okE L (dp - 1).toNat y) (D.bl) rfl nd (blkOk_by (N := ["layers", "expression", "depth", "part"]) (sc := defScope s_is_expression_over_z8) (by decide +kernel)) (id_tup (ed_call G_parts_of (hr.mono (by decide)) (by rfl) (ad_cons (ed_var 1 rfl) ad_nil) (by exact .mk (Ex.siz o n y)))) (rfl) (fun y hxm => ⟨_, by rfl, fun _ _ _ _ _ => ⟨(dg_name 3 nd), tds_nil, (ed_call G_is_expression_over_z7 (hr.mono (by decide)) (by rfl) (ad_cons (ed_var 0 rfl) (ad_cons (ed_var 3 rfl) (ad_cons (ed_bin (ed_var 2 rfl) ed_int (by walk_at "b2")) ad_nil))) (by exact .mk L _ (dp - 1) (by omega)))⟩⟩) (by rw [sizeLine_eq]; exact Nat.le_trans (parts_len _) (by decide)))) ad_nil) (bc_all rfl)) ?_) (Or.inl rfl))
          first | (rw [okE_s hd1]; unfold okE; rw [hsz]; rfl) | (rw [okE_s hd1]; show D.bl ([okE L (dp - 1).toNat y].all id) = _; simp [okE, hsz])
abbrev s_is_expression_over_z9 : Stmt := top 25
theorem sc_is_expression_over_z9 : FnScope ["layers", "expression", "depth", "part"] ["layers", "expression", "depth"] (defScope s_is_expression_over_z9) := ⟨rfl, rfl, rfl, by decide +kernel, rfl, by decide +kernel, by decide +kernel⟩
theorem ok_is_expression_over_z9 {f : Addr} {fd : FuncData} (F : Fun K "is_expression_over" "is_expression_over" s_is_expression_over_z9 f fd) (B : Bt mg) (KC : Kt K mg) (KL : Lt K mg) (WD : Zdt K w mg) (G_is_expression_over_z8 : Fn P w K mg base "is_expression_over" 10 R_is_expression_over_z8) (G_is_expression_over_z8 : Fn P w K mg base "is_expression_over" 10 R_is_expression_over_z8) (G_is_size : Fn P w K mg base "is_size" 1 R_is_size) (G_parts_of : Fn P w K mg base "parts_of" 1 R_parts_of) :
    FnOk P w K mg base CX0 11 f fd ["layers", "expression", "depth"] (spR K R_is_expression_over_z9) := by
  refine fn_ok (k := 10) F sc_is_expression_over_z9 (fun ds d h => by cases h <;> rfl) fun ds d hR cdv A outer s H E hr => ?_
  have nd := sc_is_expression_over_z9.nd
  have hu := hr.units
  rcases hR with ⟨L, x, dp, hd⟩
  walk_at "en"
  refine ws_cons (ws_if (td_cmp (ed_var 2 rfl) ed_int (by walk_at "c2")) (fun hc1 => ?_) (fun hc1 => ?_))
  · skip
    have hd1 := of_decide_eq_true hc1
    refine ws_cons (ws_ret (ED.eq ed_bl ?_) (Or.inl rfl))
    rw [okE_no hd1]
  · skip
    have hd1 := of_decide_eq_false hc1
    refine ws_nil ?_
    rcases x with n | ⟨o, l, r⟩ | ⟨o, n, y⟩
    · skip
      refine ws_cons (ws_if (TD.eq (td_cmp (ED.eq (d' := .str "layer") (ed_ix (ED.eq (d' := .tup [.str "layer", .str n]) (ed_var 1 rfl) rfl) ed_int IX.t0) rfl) ed_str c2_eqS (by rfl)) rfl) (fun hc2 => ?_) (fun hc2 => ?_))
      · skip
        clear hc2
        refine ws_cons (ws_ret (ED.eq (ed_cmp (ED.eq (d' := .str n) (ed_ix (ED.eq (d' := .tup [.str "layer", .str n]) (ed_var 1 rfl) rfl) ed_int IX.t1) rfl) (ed_var 0 rfl) (c2_inStr (ys := L) (.lst _)) (by rfl)) ?_) (Or.inl rfl))
        first | (rw [okE_s hd1]; rfl)
      · skip
        cases hc2
    · skip
      refine ws_cons (ws_if (TD.eq (td_cmp (ED.eq (d' := .str (opP o)) (ed_ix (ED.eq (d' := .tup [.str (opP o), l.e, r.e]) (ed_var 1 rfl) rfl) ed_int IX.t0) rfl) ed_str c2_eqS (by rfl)) (opP_lay o)) (fun hc3 => ?_) (fun hc3 => ?_))
      · skip
        cases hc3
      · skip
        clear hc3
        refine ws_nil ?_
        refine ws_cons (ws_if (td_tw (tw_and (k' := true) (TD.eq (td_cmp (ED.eq (d' := .str (opP o)) (ed_ix (ED.eq (d' := .tup [.str (opP o), l.e, r.e]) (ed_var 1 rfl) rfl) ed_int IX.t0) rfl) (ed_const KC.«SIZING» (by rfl)) (c2_inStr (ys := opL3) (.tup _)) (by rfl)) (opP_notS o)) (fun h => by cases h))) (fun hc4 => ?_) (fun hc4 => ?_))
        · skip
          simp at hc4
        · skip
          clear hc4
          refine ws_nil ?_
          refine ws_cons (ws_ret (ED.eq (ed_callB (id := "all") (by rfl) B.«all» bb_all (ad_cons (ed_lst (eo_map2 [("part", 3)] ((Ex.two o l r).parts) (Ex.e) (fun y => okE L (dp - 1).toNat y) (D.bl) rfl nd (blkOk_by (N := ["layers", "expression", "depth", "part"]) (sc := defScope s_is_expression_over_z9) (by decide +kernel)) (id_tup (ed_call G_parts_of (hr.mono (by decide)) (by rfl) (ad_cons (ed_var 1 rfl) ad_nil) (by exact .mk (Ex.two o l r)))) (rfl) (fun y hxm => ⟨_, by rfl, fun _ _ _ _ _ => ⟨(dg_name 3 nd), tds_nil, (ed_call G_is_expression_over_z8 (hr.mono (by decide)) (by rfl) (ad_cons (ed_var 0 rfl) (ad_cons (ed_var 3 rfl) (ad_cons (ed_bin (ed_var 2 rfl) ed_int (by walk_at "b2")) ad_nil))) (by exact .mk L _ (dp - 1) (by omega)))⟩⟩) (by rw [sizeLine_eq]; exact Nat.le_trans (parts_len _) (by decide)))) ad_nil) (bc_all rfl)) ?_) (Or.inl rfl))
          rw [okE_s hd1]
          show D.bl ([okE L (dp - 1).toNat l, okE L (dp - 1).toNat r].all id) = _
          simp [okE]
    · skip
      refine ws_cons (ws_if (TD.eq (td_cmp (ED.eq (d' := .str (opS o)) (ed_ix (ED.eq (d' := .tup [.str (opS o), .int n, y.e]) (ed_var 1 rfl) rfl) ed_int IX.t0) rfl) ed_str c2_eqS (by rfl)) (opS_lay o)) (fun hc6 => ?_) (fun hc6 => ?_))
      · skip
        cases hc6
      · skip
        clear hc6
        refine ws_nil ?_
        refine ws_cons (ws_if (td_tw (tw_and (TD.eq (td_cmp (ED.eq (d' := .str (opS o)) (ed_ix (ED.eq (d' := .tup [.str (opS o), .int n, y.e]) (ed_var 1 rfl) rfl) ed_int IX.t0) rfl) (ed_const KC.«SIZING» (by rfl)) (c2_inStr (ys := opL3) (.tup _)) (by rfl)) (opS_in o)) (fun hb8 => (tw_and1 (td_not (td_truth (ed_call G_is_size (hr.mono (by decide)) (by rfl) (ad_cons (ED.eq (d' := .str (opS o)) (ed_ix (ED.eq (d' := .tup [.str (opS o), .int n, y.e]) (ed_var 1 rfl) rfl) ed_int IX.t0) rfl) (ad_cons (ED.eq (d' := .int n) (ed_ix (ED.eq (d' := .tup [.str (opS o), .int n, y.e]) (ed_var 1 rfl) rfl) ed_int IX.t1) rfl) ad_nil)) (by exact .mk _ _)) rfl)))))) (fun hc7 => ?_) (fun hc7 => ?_))
        · skip
          have hsz : szE (opS o) n = false := by simpa using hc7
          refine ws_cons (ws_ret (ED.eq ed_bl ?_) (Or.inl rfl))
          first | (rw [okE_s hd1]; unfold okE; rw [hsz]; rfl) | (rw [okE_s hd1]; show D.bl ([okE L (dp - 1).toNat y].all id) = _; simp [okE, hsz])
        · skip
          have hsz : szE (opS o) n = true := by simpa using hc7
          refine ws_nil ?_
          refine ws_cons (ws_ret (ED.eq (ed_callB (id := "all") (by rfl) B.«all» bb_all (ad_cons (ed_lst (eo_map2 [("part", 3)] ((Ex.siz o n y).parts) (Ex.e) (fun y => okE L (dp - 1).toNat y) (D.bl) rfl nd (blkOk_by (N := ["layers", "expression", "depth", "part"]) (sc := defScope s_is_expression_over_z9) (by decide +kernel)) (id_tup (ed_call G_parts_of (hr.mono (by decide)) (by rfl) (ad_cons (ed_var 1 rfl) ad_nil) (by exact .mk (Ex.siz o n y)))) (rfl) (fun y hxm => ⟨_, by rfl, fun _ _ _ _ _ => ⟨(dg_name 3 nd), tds_nil, (ed_call G_is_expression_over_z8 (hr.mono (by decide)) (by rfl) (ad_cons (ed_var 0 rfl) (ad_cons (ed_var 3 rfl) (ad_cons (ed_bin (ed_var 2 rfl) ed_int (by walk_at "b2")) ad_nil))) (by exact .mk L _ (dp - 1) (by omega)))⟩⟩) (by rw [sizeLine_eq]; exact Nat.le_trans (parts_len _) (by decide)))) ad_nil) (bc_all rfl)) ?_) (Or.inl rfl))
          first | (rw [okE_s hd1]; unfold okE; rw [hsz]; rfl) | (rw [okE_s hd1]; show D.bl ([okE L (dp - 1).toNat y].all id) = _; simp [okE, hsz])
abbrev s_is_expression_over_z10 : Stmt := top 25
theorem sc_is_expression_over_z10 : FnScope ["layers", "expression", "depth", "part"] ["layers", "expression", "depth"] (defScope s_is_expression_over_z10) := ⟨rfl, rfl, rfl, by decide +kernel, rfl, by decide +kernel, by decide +kernel⟩
theorem ok_is_expression_over_z10 {f : Addr} {fd : FuncData} (F : Fun K "is_expression_over" "is_expression_over" s_is_expression_over_z10 f fd) (B : Bt mg) (KC : Kt K mg) (KL : Lt K mg) (WD : Zdt K w mg) (G_is_expression_over_z9 : Fn P w K mg base "is_expression_over" 11 R_is_expression_over_z9) (G_is_expression_over_z9 : Fn P w K mg base "is_expression_over" 11 R_is_expression_over_z9) (G_is_size : Fn P w K mg base "is_size" 1 R_is_size) (G_parts_of : Fn P w K mg base "parts_of" 1 R_parts_of) :
    FnOk P w K mg base CX0 12 f fd ["layers", "expression", "depth"] (spR K R_is_expression_over_z10) := by
  refine fn_ok (k := 11) F sc_is_expression_over_z10 (fun ds d h => by cases h <;> rfl) fun ds d hR cdv A outer s H E hr => ?_
  have nd := sc_is_expression_over_z10.nd
  have hu := hr.units
  rcases hR with ⟨L, x, dp, hd⟩
  walk_at "en"
  refine ws_cons (ws_if (td_cmp (ed_var 2 rfl) ed_int (by walk_at "c2")) (fun hc1 => ?_) (fun hc1 => ?_))
  · skip
    have hd1 := of_decide_eq_true hc1
    refine ws_cons (ws_ret (ED.eq ed_bl ?_) (Or.inl rfl))
    rw [okE_no hd1]
  · skip
    have hd1 := of_decide_eq_false hc1
    refine ws_nil ?_
    rcases x with n | ⟨o, l, r⟩ | ⟨o, n, y⟩
    · skip
      refine ws_cons (ws_if (TD.eq (td_cmp (ED.eq (d' := .str "layer") (ed_ix (ED.eq (d' := .tup [.str "layer", .str n]) (ed_var 1 rfl) rfl) ed_int IX.t0) rfl) ed_str c2_eqS (by rfl)) rfl) (fun hc2 => ?_) (fun hc2 => ?_))
      · skip
        clear hc2
        refine ws_cons (ws_ret (ED.eq (ed_cmp (ED.eq (d' := .str n) (ed_ix (ED.eq (d' := .tup [.str "layer", .str n]) (ed_var 1 rfl) rfl) ed_int IX.t1) rfl) (ed_var 0 rfl) (c2_inStr (ys := L) (.lst _)) (by rfl)) ?_) (Or.inl rfl))
        first | (rw [okE_s hd1]; rfl)
      · skip
        cases hc2
    · skip
      refine ws_cons (ws_if (TD.eq (td_cmp (ED.eq (d' := .str (opP o)) (ed_ix (ED.eq (d' := .tup [.str (opP o), l.e, r.e]) (ed_var 1 rfl) rfl) ed_int IX.t0) rfl) ed_str c2_eqS (by rfl)) (opP_lay o)) (fun hc3 => ?_) (fun hc3 => ?_))
      · skip
        cases hc3
      · skip
        clear hc3
        refine ws_nil ?_
        refine ws_cons (ws_if (td_tw (tw_and (k' := true) (TD.eq (td_cmp (ED.eq (d' := .str (opP o)) (ed_ix (ED.eq (d' := .tup [.str (opP o), l.e, r.e]) (ed_var 1 rfl) rfl) ed_int IX.t0) rfl) (ed_const KC.«SIZING» (by rfl)) (c2_inStr (ys := opL3) (.tup _)) (by rfl)) (opP_notS o)) (fun h => by cases h))) (fun hc4 => ?_) (fun hc4 => ?_))
        · skip
          simp at hc4
        · skip
          clear hc4
          refine ws_nil ?_
          refine ws_cons (ws_ret (ED.eq (ed_callB (id := "all") (by rfl) B.«all» bb_all (ad_cons (ed_lst (eo_map2 [("part", 3)] ((Ex.two o l r).parts) (Ex.e) (fun y => okE L (dp - 1).toNat y) (D.bl) rfl nd (blkOk_by (N := ["layers", "expression", "depth", "part"]) (sc := defScope s_is_expression_over_z10) (by decide +kernel)) (id_tup (ed_call G_parts_of (hr.mono (by decide)) (by rfl) (ad_cons (ed_var 1 rfl) ad_nil) (by exact .mk (Ex.two o l r)))) (rfl) (fun y hxm => ⟨_, by rfl, fun _ _ _ _ _ => ⟨(dg_name 3 nd), tds_nil, (ed_call G_is_expression_over_z9 (hr.mono (by decide)) (by rfl) (ad_cons (ed_var 0 rfl) (ad_cons (ed_var 3 rfl) (ad_cons (ed_bin (ed_var 2 rfl) ed_int (by walk_at "b2")) ad_nil))) (by exact .mk L _ (dp - 1) (by omega)))⟩⟩) (by rw [sizeLine_eq]; exact Nat.le_trans (parts_len _) (by decide)))) ad_nil) (bc_all rfl)) ?_) (Or.inl rfl))
          rw [okE_s hd1]
          show D.bl ([okE L (dp - 1).toNat l, okE L (dp - 1).toNat r].all id) = _
          simp [okE]
    · skip
      refine ws_cons (ws_if (TD.eq (td_cmp (ED.eq (d' := .str (opS o)) (ed_ix (ED.eq (d' := .tup [.str (opS o), .int n, y.e]) (ed_var 1 rfl) rfl) ed_int IX.t0) rfl) ed_str c2_eqS (by rfl)) (opS_lay o)) (fun hc6 => ?_) (fun hc6 => ?_))
      · skip
        cases hc6
      · skip
        clear hc6
        refine ws_nil ?_
        refine ws_cons (ws_if (td_tw (tw_and (TD.eq (td_cmp (ED.eq (d' := .str (opS o)) (ed_ix (ED.eq (d' := .tup [.str (opS o), .int n, y.e]) (ed_var 1 rfl) rfl) ed_int IX.t0) rfl) (ed_const KC.«SIZING» (by rfl)) (c2_inStr (ys := opL3) (.tup _)) (by rfl)) (opS_in o)) (fun hb8 => (tw_and1 (td_not (td_truth (ed_call G_is_size (hr.mono (by decide)) (by rfl) (ad_cons (ED.eq (d' := .str (opS o)) (ed_ix (ED.eq (d' := .tup [.str (opS o), .int n, y.e]) (ed_var 1 rfl) rfl) ed_int IX.t0) rfl) (ad_cons (ED.eq (d' := .int n) (ed_ix (ED.eq (d' := .tup [.str (opS o), .int n, y.e]) (ed_var 1 rfl) rfl) ed_int IX.t1) rfl) ad_nil)) (by exact .mk _ _)) rfl)))))) (fun hc7 => ?_) (fun hc7 => ?_))
        · skip
          have hsz : szE (opS o) n = false := by simpa using hc7
          refine ws_cons (ws_ret (ED.eq ed_bl ?_) (Or.inl rfl))
          first | (rw [okE_s hd1]; unfold okE; rw [hsz]; rfl) | (rw [okE_s hd1]; show D.bl ([okE L (dp - 1).toNat y].all id) = _; simp [okE, hsz])
        · skip
          have hsz : szE (opS o) n = true := by simpa using hc7
          refine ws_nil ?_
          refine ws_cons (ws_ret (ED.eq (ed_callB (id := "all") (by rfl) B.«all» bb_all (ad_cons (ed_lst (eo_map2 [("part", 3)] ((Ex.siz o n y).parts) (Ex.e) (fun y => okE L (dp - 1).toNat y) (D.bl) rfl nd (blkOk_by (N := ["layers", "expression", "depth", "part"]) (sc := defScope s_is_expression_over_z10) (by decide +kernel)) (id_tup (ed_call G_parts_of (hr.mono (by decide)) (by rfl) (ad_cons (ed_var 1 rfl) ad_nil) (by exact .mk (Ex.siz o n y)))) (rfl) (fun y hxm => ⟨_, by rfl, fun _ _ _ _ _ => ⟨(dg_name 3 nd), tds_nil, (ed_call G_is_expression_over_z9 (hr.mono (by decide)) (by rfl) (ad_cons (ed_var 0 rfl) (ad_cons (ed_var 3 rfl) (ad_cons (ed_bin (ed_var 2 rfl) ed_int (by walk_at "b2")) ad_nil))) (by exact .mk L _ (dp - 1) (by omega)))⟩⟩) (by rw [sizeLine_eq]; exact Nat.le_trans (parts_len _) (by decide)))) ad_nil) (bc_all rfl)) ?_) (Or.inl rfl))
          first | (rw [okE_s hd1]; unfold okE; rw [hsz]; rfl) | (rw [okE_s hd1]; show D.bl ([okE L (dp - 1).toNat y].all id) = _; simp [okE, hsz])
abbrev s_is_expression_over_z11 : Stmt := top 25
theorem sc_is_expression_over_z11 : FnScope ["layers", "expression", "depth", "part"] ["layers", "expression", "depth"] (defScope s_is_expression_over_z11) := ⟨rfl, rfl, rfl, by decide +kernel, rfl, by decide +kernel, by decide +kernel⟩
theorem ok_is_expression_over_z11 {f : Addr} {fd : FuncData} (F : Fun K "is_expression_over" "is_expression_over" s_is_expression_over_z11 f fd) (B : Bt mg) (KC : Kt K mg) (KL : Lt K mg) (WD : Zdt K w mg) (G_is_expression_over_z10 : Fn P w K mg base "is_expression_over" 12 R_is_expression_over_z10) (G_is_expression_over_z10 : Fn P w K mg base "is_expression_over" 12 R_is_expression_over_z10) (G_is_size : Fn P w K mg base "is_size" 1 R_is_size) (G_parts_of : Fn P w K mg base "parts_of" 1 R_parts_of) :
    FnOk P w K mg base CX0 13 f fd ["layers", "expression", "depth"] (spR K R_is_expression_over_z11) := by
  refine fn_ok (k := 12) F sc_is_expression_over_z11 (fun ds d h => by cases h <;> rfl) fun ds d hR cdv A outer s H E hr => ?_
  have nd := sc_is_expression_over_z11.nd
  have hu := hr.units
  rcases hR with ⟨L, x, dp, hd⟩
  walk_at "en"
  refine ws_cons (ws_if (td_cmp (ed_var 2 rfl) ed_int (by walk_at "c2")) (fun hc1 => ?_) (fun hc1 => ?_))
  · skip
    have hd1 := of_decide_eq_true hc1
    refine ws_cons (ws_ret (ED.eq ed_bl ?_) (Or.inl rfl))
    rw [okE_no hd1]
  · skip
    have hd1 := of_decide_eq_false hc1
    refine ws_nil ?_
    rcases x with n | ⟨o, l, r⟩ | ⟨o, n, y⟩
    · skip
      refine ws_cons (ws_if (TD.eq (td_cmp (ED.eq (d' := .str "layer") (ed_ix (ED.eq (d' := .tup [.str "layer", .str n]) (ed_var 1 rfl) rfl) ed_int IX.t0) rfl) ed_str c2_eqS (by rfl)) rfl) (fun hc2 => ?_) (fun hc2 => ?_))
      · skip
        clear hc2
        refine ws_cons (ws_ret (ED.eq (ed_cmp (ED.eq (d' := .str n) (ed_ix (ED.eq (d' := .tup [.str "layer", .str n]) (ed_var 1 rfl) rfl) ed_int IX.t1) rfl) (ed_var 0 rfl) (c2_inStr (ys := L) (.lst _)) (by rfl)) ?_) (Or.inl rfl))
        first | (rw [okE_s hd1]; rfl)
      · skip
        cases hc2
    · skip
      refine ws_cons (ws_if (TD.eq (td_cmp (ED.eq (d' := .str (opP o)) (ed_ix (ED.eq (d' := .tup [.str (opP o), l.e, r.e]) (ed_var 1 rfl) rfl) ed_int IX.t0) rfl) ed_str c2_eqS (by rfl)) (opP_lay o)) (fun hc3 => ?_) (fun hc3 => ?_))
      · skip
        cases hc3
      · skip
        clear hc3
        refine ws_nil ?_
        refine ws_cons (ws_if (td_tw (tw_and (k' := true) (TD.eq (td_cmp (ED.eq (d' := .str (opP o)) (ed_ix (ED.eq (d' := .tup [.str (opP o), l.e, r.e]) (ed_var 1 rfl) rfl) ed_int IX.t0) rfl) (ed_const KC.«SIZING» (by rfl)) (c2_inStr (ys := opL3) (.tup _)) (by rfl)) (opP_notS o)) (fun h => by cases h))) (fun hc4 => ?_) (fun hc4 => ?_))
        · skip
          simp at hc4
        · skip
          clear hc4
          refine ws_nil ?_
          refine ws_cons (ws_ret (ED.eq (ed_callB (id := "all") (by rfl) B.«all» bb_all (ad_cons (ed_lst (eo_map2 [("part", 3)] ((Ex.two o l r).parts) (Ex.e) (fun y => okE L (dp - 1).toNat y) (D.bl) rfl nd (blkOk_by (N := ["layers", "expression", "depth", "part"]) (sc := defScope s_is_expression_over_z11) (by decide +kernel)) (id_tup (ed_call G_parts_of (hr.mono (by decide)) (by rfl) (ad_cons (ed_var 1 rfl) ad_nil) (by exact .mk (Ex.two o l r)))) (rfl) (fun y hxm => ⟨_, by rfl, fun _ _ _ _ _ => ⟨(dg_name 3 nd), tds_nil, (ed_call G_is_expression_over_z10 (hr.mono (by decide)) (by rfl) (ad_cons (ed_var 0 rfl) (ad_cons (ed_var 3 rfl) (ad_cons (ed_bin (ed_var 2 rfl) ed_int (by walk_at "b2")) ad_nil))) (by exact .mk L _ (dp - 1) (by omega)))⟩⟩) (by rw [sizeLine_eq]; exact Nat.le_trans (parts_len _) (by decide)))) ad_nil) (bc_all rfl)) ?_) (Or.inl rfl))
          rw [okE_s hd1]
          show D.bl ([okE L (dp - 1).toNat l, okE L (dp - 1).toNat r].all id) = _
          simp [okE]
    · skip
      refine ws_cons (ws_if (TD.eq (td_cmp (ED.eq (d' := .str (opS o)) (ed_ix (ED.eq (d' := .tup [.str (opS o), .int n, y.e]) (ed_var 1 rfl) rfl) ed_int IX.t0) rfl) ed_str c2_eqS (by rfl)) (opS_lay o)) (fun hc6 => ?_) (fun hc6 => ?_))
      · skip
        cases hc6
      · skip
        clear hc6
        refine ws_nil ?_
        refine ws_cons (ws_if (td_tw (tw_and (TD.eq (td_cmp (ED.eq (d' := .str (opS o)) (ed_ix (ED.eq (d' := .tup [.str (opS o), .int n, y.e]) (ed_var 1 rfl) rfl) ed_int IX.t0) rfl) (ed_const KC.«SIZING» (by rfl)) (c2_inStr (ys := opL3) (.tup _)) (by rfl)) (opS_in o)) (fun hb8 => (tw_and1 (td_not (td_truth (ed_call G_is_size (hr.mono (by decide)) (by rfl) (ad_cons (ED.eq (d' := .str (opS o)) (ed_ix (ED.eq (d' := .tup [.str (opS o), .int n, y.e]) (ed_var 1 rfl) rfl) ed_int IX.t0) rfl) (ad_cons (ED.eq (d' := .int n) (ed_ix (ED.eq (d' := .tup [.str (opS o), .int n, y.e]) (ed_var 1 rfl) rfl) ed_int IX.t1) rfl) ad_nil)) (by exact .mk _ _)) rfl)))))) (fun hc7 => ?_) (fun hc7 => ?_))
        · skip
          have hsz : szE (opS o) n = false := by simpa using hc7
          refine ws_cons (ws_ret (ED.eq ed_bl ?_) (Or.inl rfl))
          first | (rw [okE_s hd1]; unfold okE; rw [hsz]; rfl) | (rw [okE_s hd1]; show D.bl ([okE L (dp - 1).toNat y].all id) = _; simp [okE, hsz])
        · skip
          have hsz : szE (opS o) n = true := by simpa using hc7
          refine ws_nil ?_
          refine ws_cons (ws_ret (ED.eq (ed_callB (id := "all") (by rfl) B.«all» bb_all (ad_cons (ed_lst (eo_map2 [("part", 3)] ((Ex.siz o n y).parts) (Ex.e) (fun y => okE L (dp - 1).toNat y) (D.bl) rfl nd (blkOk_by (N := ["layers", "expression", "depth", "part"]) (sc := defScope s_is_expression_over_z11) (by decide +kernel)) (id_tup (ed_call G_parts_of (hr.mono (by decide)) (by rfl) (ad_cons (ed_var 1 rfl) ad_nil) (by exact .mk (Ex.siz o n y)))) (rfl) (fun y hxm => ⟨_, by rfl, fun _ _ _ _ _ => ⟨(dg_name 3 nd), tds_nil, (ed_call G_is_expression_over_z10 (hr.mono (by decide)) (by rfl) (ad_cons (ed_var 0 rfl) (ad_cons (ed_var 3 rfl) (ad_cons (ed_bin (ed_var 2 rfl) ed_int (by walk_at "b2")) ad_nil))) (by exact .mk L _ (dp - 1) (by omega)))⟩⟩) (by rw [sizeLine_eq]; exact Nat.le_trans (parts_len _) (by decide)))) ad_nil) (bc_all rfl)) ?_) (Or.inl rfl))
          first | (rw [okE_s hd1]; unfold okE; rw [hsz]; rfl) | (rw [okE_s hd1]; show D.bl ([okE L (dp - 1).toNat y].all id) = _; simp [okE, hsz])
abbrev s_is_expression_over_z12 : Stmt := top 25
theorem sc_is_expression_over_z12 : FnScope ["layers", "expression", "depth", "part"] ["layers", "expression", "depth"] (defScope s_is_expression_over_z12) := ⟨rfl, rfl, rfl, by decide +kernel, rfl, by decide +kernel, by decide +kernel⟩
theorem ok_is_expression_over_z12 {f : Addr} {fd : FuncData} (F : Fun K "is_expression_over" "is_expression_over" s_is_expression_over_z12 f fd) (B : Bt mg) (KC : Kt K mg) (KL : Lt K mg) (WD : Zdt K w mg) (G_is_expression_over_z11 : Fn P w K mg base "is_expression_over" 13 R_is_expression_over_z11) (G_is_expression_over_z11 : Fn P w K mg base "is_expression_over" 13 R_is_expression_over_z11) (G_is_size : Fn P w K mg base "is_size" 1 R_is_size) (G_parts_of : Fn P w K mg base "parts_of" 1 R_parts_of) :
    FnOk P w K mg base CX0 14 f fd ["layers", "expression", "depth"] (spR K R_is_expression_over_z12) := by
  refine fn_ok (k := 13) F sc_is_expression_over_z12 (fun ds d h => by cases h <;> rfl) fun ds d hR cdv A outer s H E hr => ?_
  have nd := sc_is_expression_over_z12.nd
  have hu := hr.units
  rcases hR with ⟨L, x, dp, hd⟩
  walk_at "en"
  refine ws_cons (ws_if (td_cmp (ed_var 2 rfl) ed_int (by walk_at "c2")) (fun hc1 => ?_) (fun hc1 => ?_))
  · skip
    have hd1 := of_decide_eq_true hc1
    refine ws_cons (ws_ret (ED.eq ed_bl ?_) (Or.inl rfl))
    rw [okE_no hd1]
  · skip
    have hd1 := of_decide_eq_false hc1
    refine ws_nil ?_
    rcases x with n | ⟨o, l, r⟩ | ⟨o, n, y⟩
    · skip
      refine ws_cons (ws_if (TD.eq (td_cmp (ED.eq (d' := .str "layer") (ed_ix (ED.eq (d' := .tup [.str "layer", .str n]) (ed_var 1 rfl) rfl) ed_int IX.t0) rfl) ed_str c2_eqS (by rfl)) rfl) (fun hc2 => ?_) (fun hc2 => ?_))
      · skip
        clear hc2
        refine ws_cons (ws_ret (ED.eq (ed_cmp (ED.eq (d' := .str n) (ed_ix (ED.eq (d' := .tup [.str "layer", .str n]) (ed_var 1 rfl) rfl) ed_int IX.t1) rfl) (ed_var 0 rfl) (c2_inStr (ys := L) (.lst _)) (by rfl)) ?_) (Or.inl rfl))
        first | (rw [okE_s hd1]; rfl)
      · skip
        cases hc2
    · skip
      refine ws_cons (ws_if (TD.eq (td_cmp (ED.eq (d' := .str (opP o)) (ed_ix (ED.eq (d' := .tup [.str (opP o), l.e, r.e]) (ed_var 1 rfl) rfl) ed_int IX.t0) rfl) ed_str c2_eqS (by rfl)) (opP_lay o)) (fun hc3 => ?_) (fun hc3 => ?_))
      · skip
        cases hc3
      · skip
        clear hc3
        refine ws_nil ?_
        refine ws_cons (ws_if (td_tw (tw_and (k' := true) (TD.eq (td_cmp (ED.eq (d' := .str (opP o)) (ed_ix (ED.eq (d' := .tup [.str (opP o), l.e, r.e]) (ed_var 1 rfl) rfl) ed_int IX.t0) rfl) (ed_const KC.«SIZING» (by rfl)) (c2_inStr (ys := opL3) (.tup _)) (by rfl)) (opP_notS o)) (fun h => by cases h))) (fun hc4 => ?_) (fun hc4 => ?_))
        · skip
          simp at hc4
        · skip
          clear hc4
          refine ws_nil ?_
          refine ws_cons (ws_ret (ED.eq (ed_callB (id := "all") (by rfl) B.«all» bb_all (ad_cons (ed_lst (eo_map2 [("part", 3)] ((Ex.two o l r).parts) (Ex.e) (fun y => okE L (dp - 1).toNat y) (D.bl) rfl nd (blkOk_by (N := ["layers", "expression", "depth", "part"]) (sc := defScope s_is_expression_over_z12) (by decide +kernel)) (id_tup (ed_call G_parts_of (hr.mono (by decide)) (by rfl) (ad_cons (ed_var 1 rfl) ad_nil) (by exact .mk (Ex.two o l r)))) (rfl) (fun y hxm => ⟨_, by rfl, fun _ _ _ _ _ => ⟨(dg_name 3 nd), tds_nil, (ed_call G_is_expression_over_z11 (hr.mono (by decide)) (by rfl) (ad_cons (ed_var 0 rfl) (ad_cons (ed_var 3 rfl) (ad_cons (ed_bin (ed_var 2 rfl) ed_int (by walk_at "b2")) ad_nil))) (by exact .mk L _ (dp - 1) (by omega)))⟩⟩) (by rw [sizeLine_eq]; exact Nat.le_trans (parts_len _) (by decide)))) ad_nil) (bc_all rfl)) ?_) (Or.inl rfl))
          rw [okE_s hd1]
          show D.bl ([okE L (dp - 1).toNat l, okE L (dp - 1).toNat r].all id) = _
          simp [okE]
    · skip
      refine ws_cons (ws_if (TD.eq (td_cmp (ED.eq (d' := .str (opS o)) (ed_ix (ED.eq (d' := .tup [.str (opS o), .int n, y.e]) (ed_var 1 rfl) rfl) ed_int IX.t0) rfl) ed_str c2_eqS (by rfl)) (opS_lay o)) (fun hc6 => ?_) (fun hc6 => ?_))
      · skip
        cases hc6
      · skip
        clear hc6
        refine ws_nil ?_
        refine ws_cons (ws_if (td_tw (tw_and (TD.eq (td_cmp (ED.eq (d' := .str (opS o)) (ed_ix (ED.eq (d' := .tup [.str (opS o), .int n, y.e]) (ed_var 1 rfl) rfl) ed_int IX.t0) rfl) (ed_const KC.«SIZING» (by rfl)) (c2_inStr (ys := opL3) (.tup _)) (by rfl)) (opS_in o)) (fun hb8 => (tw_and1 (td_not (td_truth (ed_call G_is_size (hr.mono (by decide)) (by rfl) (ad_cons (ED.eq (d' := .str (opS o)) (ed_ix (ED.eq (d' := .tup [.str (opS o), .int n, y.e]) (ed_var 1 rfl) rfl) ed_int IX.t0) rfl) (ad_cons (ED.eq (d' := .int n) (ed_ix (ED.eq (d' := .tup [.str (opS o), .int n, y.e]) (ed_var 1 rfl) rfl) ed_int IX.t1) rfl) ad_nil)) (by exact .mk _ _)) rfl)))))) (fun hc7 => ?_) (fun hc7 => ?_))
        · skip
          have hsz : szE (opS o) n = false := by simpa using hc7
          refine ws_cons (ws_ret (ED.eq ed_bl ?_) (Or.inl rfl))
          first | (rw [okE_s hd1]; unfold okE; rw [hsz]; rfl) | (rw [okE_s hd1]; show D.bl ([okE L (dp - 1).toNat y].all id) = _; simp [okE, hsz])
        · skip
          have hsz : szE (opS o) n = true := by simpa using hc7
          refine ws_nil ?_
          refine ws_cons (ws_ret (ED.eq (ed_callB (id := "all") (by rfl) B.«all» bb_all (ad_cons (ed_lst (eo_map2 [("part", 3)] ((Ex.siz o n y).parts) (Ex.e) (fun y => okE L (dp - 1).toNat y) (D.bl) rfl nd (blkOk_by (N := ["layers", "expression", "depth", "part"]) (sc := defScope s_is_expression_over_z12) (by decide +kernel)) (id_tup (ed_call G_parts_of (hr.mono (by decide)) (by rfl) (ad_cons (ed_var 1 rfl) ad_nil) (by exact .mk (Ex.siz o n y)))) (rfl) (fun y hxm => ⟨_, by rfl, fun _ _ _ _ _ => ⟨(dg_name 3 nd), tds_nil, (ed_call G_is_expression_over_z11 (hr.mono (by decide)) (by rfl) (ad_cons (ed_var 0 rfl) (ad_cons (ed_var 3 rfl) (ad_cons (ed_bin (ed_var 2 rfl) ed_int (by walk_at "b2")) ad_nil))) (by exact .mk L _ (dp - 1) (by omega)))⟩⟩) (by rw [sizeLine_eq]; exact Nat.le_trans (parts_len _) (by decide)))) ad_nil) (bc_all rfl)) ?_) (Or.inl rfl))
          first | (rw [okE_s hd1]; unfold okE; rw [hsz]; rfl) | (rw [okE_s hd1]; show D.bl ([okE L (dp - 1).toNat y].all id) = _; simp [okE, hsz])
abbrev s_is_new_layer : Stmt := top 26
theorem sc_is_new_layer : FnScope ["layers", "name"] ["layers", "name"] (defScope s_is_new_layer) := ⟨rfl, rfl, rfl, by decide +kernel, rfl, by decide +kernel, by decide +kernel⟩
theorem ok_is_new_layer {f : Addr} {fd : FuncData} (F : Fun K "is_new_layer" "is_new_layer" s_is_new_layer f fd) (B : Bt mg) (KC : Kt K mg) (KL : Lt K mg) (WD : Zdt K w mg) (G_is_name : Fn P w K mg base "is_name" 1 R_is_name) :
    FnOk P w K mg base CX0 2 f fd ["layers", "name"] (spR K R_is_new_layer) := by
  refine fn_ok (k := 1) F sc_is_new_layer (fun ds d h => by cases h <;> rfl) fun ds d hR cdv A outer s H E hr => ?_
  have nd := sc_is_new_layer.nd
  have hu := hr.units
  rcases hR with ⟨L, n, hn⟩
  walk_at "en"
  refine ws_cons (ws_ret (ED.eq (ed_and (ed_call G_is_name (hr.mono (by decide)) (by rfl) (ad_cons (ed_var 1 rfl) ad_nil) (by exact .mk _ hn)) (fun hb2 => (ed_and (ed_cmp (ed_var 1 rfl) (ed_const KC.«WORDS» (by rfl)) (c2_notInStr (ys := wds9) (.tup _)) (by rfl)) (fun hb1 => (ed_one (ed_cmp (ed_var 1 rfl) (ed_var 0 rfl) (c2_notInStr (ys := L) (.lst _)) (by rfl))))))) ?_) (Or.inl rfl))
  unfold newB
  first | rfl | simp
abbrev s_Deck_init : Stmt := inClass (top 27) 0
theorem sc_Deck_init : FnScope ["self", "definitions", "rules", "layers", "name", "expression", "rule"] ["self", "definitions", "rules"] (defScope s_Deck_init) := ⟨rfl, rfl, rfl, by decide +kernel, rfl, by decide +kernel, by decide +kernel⟩
theorem ok_Deck_init {f : Addr} {fd : FuncData} (F : Fun K "__init__" "Deck.__init__" s_Deck_init f fd) (B : Bt mg) (KC : Kt K mg) (KL : Lt K mg) (WD : Zdt K w mg) (G_is_expression_over_z12 : Fn P w K mg base "is_expression_over" 14 R_is_expression_over_z12) (G_is_expression_over_z12 : Fn P w K mg base "is_expression_over" 14 R_is_expression_over_z12) (G_is_new_layer : Fn P w K mg base "is_new_layer" 2 R_is_new_layer) (G_is_rule_over : Fn P w K mg base "is_rule_over" 2 R_is_rule_over) :
    FnOk P w K mg base CX0 15 f fd ["self", "definitions", "rules"] (spI K "Deck" R_Deck_init) := by
  refine fn_okI (k := 14) F sc_Deck_init (fun ds ns es h => by cases h; rfl) fun a0 ds ns es hR cdv A outer s H E hr => ?_
  have nd := sc_Deck_init.nd
  have hu := hr.units
  rcases hR with ⟨F, Q, ok⟩
  have hs := ok.s
  walk_at "en"
  refine ws_cons (ws_if (td_cmp (ed_callB (id := "len") (by rfl) B.«len» bb_len (ad_cons (ed_var 1 rfl) ad_nil) (by walk_at "bc")) (ed_const KC.«MOST_DEFINITIONS» (by rfl)) (by walk_at "c2")) (fun hc1 => ?_) (fun hc1 => ?_))
  · skip
    exfalso; have h := of_decide_eq_true hc1; rw [List.length_map] at h; have := ok.dl; omega
  · skip
    clear hc1
    refine ws_nil ?_
    refine ws_cons (ws_if (td_cmp (ed_callB (id := "len") (by rfl) B.«len» bb_len (ad_cons (ed_var 2 rfl) ad_nil) (by walk_at "bc")) (ed_const KC.«MOST_RULES» (by rfl)) (by walk_at "c2")) (fun hc2 => ?_) (fun hc2 => ?_))
    · skip
      exfalso; have h := of_decide_eq_true hc2; rw [List.length_map] at h; have := ok.rl; omega
    · skip
      clear hc2
      refine ws_nil ?_
      refine ws_cons (ws_setO 3 nd (eo_callT (T := "list") (by rfl) B.«list» bb_list (ad_cons (ed_const KC.«LAYERS» (by rfl)) ad_nil) (by walk_at "bo")) ?_)
      walk_at "env"
      refine ws_cons (ws_forU (F) (Df.e) rfl (id_list (ed_var 1 rfl)) (by rfl) (U := Sl × Sl) (fun i u => [(3, .ow (.lst ((lyN (F.take i)).map .str))), (4, u.1), (5, u.2)]) (fun r => (r.getD 4 .no, r.getD 5 .no)) (fun _ => True) (rfl) (True.intro) ?_ ?_)
      · intro i0 f u0 hx0 hP0
        have hg := ok.df i0 f (List.getElem?_eq_some_iff.mp hx0).1 hx0
        refine ⟨_, _, (dg_tup rfl (dgs_cons (dg_name 4 nd) (dgs_cons (dg_name 5 nd) dgs_nil))), ?_⟩
        walk_at "env"
        refine ws_cons (ws_if (td_lend 3 rfl (td_not (td_truth (ed_call G_is_new_layer (hr.mono (by decide)) (by rfl) (ad_cons (ed_var 3 rfl) (ad_cons (ed_var 4 rfl) ad_nil)) (by exact .mk (lyN (F.take i0)) f.1 (by have := hs.nl f (List.mem_of_getElem? hx0); rw [sizeLine_eq]; omega))) rfl))) (fun hc3 => ?_) (fun hc3 => ?_))
        · skip
          exfalso; rw [hg.n] at hc3; cases hc3
        · skip
          clear hc3
          refine ws_nil ?_
          refine ws_cons (ws_if (td_lend 3 rfl (td_not (td_truth (ed_call G_is_expression_over_z12 (hr.mono (by decide)) (by rfl) (ad_cons (ed_var 3 rfl) (ad_cons (ed_var 5 rfl) (ad_cons (ed_const KC.«GREATEST_DEPTH» (by rfl)) ad_nil))) (by exact .mk (lyN (F.take i0)) f.2 12 (by decide))) rfl))) (fun hc4 => ?_) (fun hc4 => ?_))
          · skip
            exfalso; rw [show okE (lyN (F.take i0)) (12 : Int).toNat f.2 = true from hg.e] at hc4; cases hc4
          · skip
            clear hc4
            refine ws_nil ?_
            refine ws_cons (ws_append 3 rfl (ed_var 4 rfl) (by have h1 := lyN_len (F.take i0); have h2 := hs.fl; rw [List.length_take] at h1; rw [List.length_map, sizeLine_eq]; omega) ?_ (fun h => ps_expr (pe_bm PySem.F.plainAttrs_list PySem.F.slot_list_append PySem.F.type_list_append mt_append (pv 3) h)))
            walk_at "env"
            refine ws_nil ?_
            refine ⟨?_, True.intro⟩
            rw [lyN_take hx0, List.map_append]
            rfl
      · intro u0 hP0
        walk_at "env"
        rw [List.take_length]
        refine ws_share 3 rfl ?_
        walk_at "env"
        refine ws_cons (ws_if (td_not (td_truth (ed_callB (id := "all") (by rfl) B.«all» bb_all (ad_cons (ed_lst (eo_map2 [("rule", 6)] (Q) (ruX) (fun r : RuX => okRL (lyN F) r.1 r.2.1 r.2.2) (D.bl) rfl nd (blkOk_by (N := ["self", "definitions", "rules", "layers", "name", "expression", "rule"]) (sc := defScope s_Deck_init) (by decide +kernel)) (id_list (ed_var 2 rfl)) (rfl) (fun r hxm => ⟨_, by rfl, fun _ _ _ _ _ => ⟨(dg_name 6 nd), tds_nil, (ed_call G_is_rule_over (hr.mono (by decide)) (by rfl) (ad_cons (ed_var 3 rfl) (ad_cons (ed_var 6 rfl) ad_nil)) (by exact .mk (lyN F) _ _ _ (hs.fm _ hxm)))⟩⟩) (by have := hs.ql; rw [sizeLine_eq]; omega))) ad_nil) (bc_all rfl)) rfl)) (fun hc5 => ?_) (fun hc5 => ?_))
        · skip
          exfalso; have h9 : ((Q.map fun r : RuX => okRL (lyN F) r.1 r.2.1 r.2.2).all id) = true := (by rw [List.all_map]; exact List.all_eq_true.mpr ok.ru); rw [h9] at hc5; cases hc5
        · skip
          clear hc5
          refine ws_nil ?_
          refine ws_cons (ws_setF 0 KL.«Deck» rfl (ed_callT (T := "tuple") (by rfl) B.«tuple» bb_tuple (ad_cons (ed_var 1 rfl) ad_nil) ((bc_tupSeq (.lst _)))) ?_)
          simp only [List.cons_append, List.nil_append]
          walk_at "env"
          refine ws_cons (ws_setF 0 KL.«Deck» rfl (ed_callT (T := "tuple") (by rfl) B.«tuple» bb_tuple (ad_cons (ed_var 2 rfl) ad_nil) ((bc_tupSeq (.lst _)))) ?_)
          simp only [List.cons_append, List.nil_append]
          walk_at "env"
          refine ws_nil ?_
          exact ⟨_, _, rfl, rfl, fun _ _ h => h⟩
abbrev s_is_integer : Stmt := top 30
theorem sc_is_integer : FnScope ["word", "digits"] ["word"] (defScope s_is_integer) := ⟨rfl, rfl, rfl, by decide +kernel, rfl, by decide +kernel, by decide +kernel⟩
theorem ok_is_integer {f : Addr} {fd : FuncData} (F : Fun K "is_integer" "is_integer" s_is_integer f fd) (B : Bt mg) (KC : Kt K mg) (KL : Lt K mg) (WD : Zdt K w mg)  :
    FnOk P w K mg base CX0 1 f fd ["word"] (spR K R_is_integer) := by
  refine fn_ok (k := 0) F sc_is_integer (fun ds d h => by cases h <;> rfl) fun ds d hR cdv A outer s H E hr => ?_
  have nd := sc_is_integer.nd
  have hu := hr.units
  rcases hR with ⟨i, hi⟩
  have hl := hi.len
  have hl2 := hi.rd.len
  have hl3 := hi.dlen
  walk_at "en"
  refine ws_cons (ws_set 1 nd (ED.eq (ed_ifv (td_truth (ED.eq (ed_starts (ed_var 0 rfl) ed_str) (show _ = D.bl (decide (i < 0)) by rw [hi.starts])) rfl) (fun hc1 => (ed_sliceS (ed_var 0 rfl) (by rw [sizeLine_eq]; omega) (some_part ed_int) no_part)) (fun hc1 => (ed_var 0 rfl))) (show _ = (D.str (dgI i)) from by exact dg_if _ rfl)) ?_)
  walk_at "env"
  refine ws_cons (ws_if (td_tw (tw_or (td_not (td_truth (ED.eq (ed_isdigit (ed_var 1 rfl)) (show _ = D.bl true from congrArg D.bl hi.rd.isdigit)) rfl)) (fun hb3 => (tw_or1 (td_cmp (ed_callB (id := "len") (by rfl) B.«len» bb_len (ad_cons (ed_var 1 rfl) ad_nil) (bc_lenS (by show (stI (i.natAbs : Int)).length ≤ _; rw [sizeLine_eq]; omega))) (ed_const KC.«MOST_DIGITS» (by rfl)) (by walk_at "c2")))))) (fun hc2 => ?_) (fun hc2 => ?_))
  · skip
    exfalso; simp at hc2; omega
  · skip
    clear hc2
    refine ws_nil ?_
    refine ws_cons (ws_ret (ED.eq (ed_or (ed_cmp (ed_var 0 rfl) ed_str (by walk_at "c2")) (fun hb4 => (ed_one (ed_cmp (ed_ixS (c := (dgI i).cps.toList.getD 0 0) (ed_var 1 rfl) ed_int (by show (stI (i.natAbs : Int)).length ≤ _; rw [sizeLine_eq]; omega) (at_head hi.rd)) ed_str (by walk_at "c2"))))) ?_) (Or.inl rfl))
    exact congrArg D.bl hi.head
abbrev s_read_integers : Stmt := top 31
theorem sc_read_integers : FnScope ["words", "word"] ["words"] (defScope s_read_integers) := ⟨rfl, rfl, rfl, by decide +kernel, rfl, by decide +kernel, by decide +kernel⟩
theorem ok_read_integers {f : Addr} {fd : FuncData} (F : Fun K "read_integers" "read_integers" s_read_integers f fd) (B : Bt mg) (KC : Kt K mg) (KL : Lt K mg) (WD : Zdt K w mg) (G_is_integer : Fn P w K mg base "is_integer" 1 R_is_integer) :
    FnOk P w K mg base CX0 2 f fd ["words"] (spR K R_read_integers) := by
  refine fn_ok (k := 1) F sc_read_integers (fun ds d h => by cases h <;> rfl) fun ds d hR cdv A outer s H E hr => ?_
  have nd := sc_read_integers.nd
  have hu := hr.units
  rcases hR with ⟨ns, hz, hl⟩
  walk_at "en"
  refine ws_cons (ws_if (td_not (td_truth (ed_callB (id := "all") (by rfl) B.«all» bb_all (ad_cons (ed_lst (eo_map2 [("word", 1)] (ns) (fun i : Int => D.str (stI i)) (fun _ => true) (D.bl) rfl nd (blkOk_by (N := ["words", "word"]) (sc := defScope s_read_integers) (by decide +kernel)) (id_list (ed_var 0 rfl)) (rfl) (fun i hxm => ⟨_, by rfl, fun _ _ _ _ _ => ⟨(dg_name 1 nd), tds_nil, (ed_call G_is_integer (hr.mono (by decide)) (by rfl) (ad_cons (ed_var 1 rfl) ad_nil) (by exact .mk _ (hz i hxm)))⟩⟩) (by rw [sizeLine_eq]; omega))) ad_nil) (bc_all rfl)) rfl)) (fun hc1 => ?_) (fun hc1 => ?_))
  · skip
    exfalso; simp at hc1
  · skip
    clear hc1
    refine ws_nil ?_
    refine ws_cons (ws_ret (ED.eq (ed_callT (T := "tuple") (by rfl) B.«tuple» bb_tuple (ad_cons (ed_lst (eo_map2 [("word", 1)] (ns) (fun i : Int => D.str (stI i)) (id) (D.int) rfl nd (blkOk_by (N := ["words", "word"]) (sc := defScope s_read_integers) (by decide +kernel)) (id_list (ed_var 0 rfl)) (rfl) (fun i hxm => ⟨_, by rfl, fun _ _ _ _ _ => ⟨(dg_name 1 nd), tds_nil, (ed_callT (T := "int") (by rfl) B.«int» bb_int (ad_cons (ed_var 1 rfl) ad_nil) (bc_intS (hz i hxm).int (Nat.le_trans (hz i hxm).len (by decide))))⟩⟩) (by rw [sizeLine_eq]; omega))) ad_nil) (by walk_at "bc")) ?_) (Or.inl rfl))
    rw [List.map_id]
abbrev s_expression_words_e1 : Stmt := top 33
theorem sc_expression_words_e1 : FnScope ["expression", "operation"] ["expression"] (defScope s_expression_words_e1) := ⟨rfl, rfl, rfl, by decide +kernel, rfl, by decide +kernel, by decide +kernel⟩
theorem ok_expression_words_e1 {f : Addr} {fd : FuncData} (F : Fun K "expression_words" "expression_words" s_expression_words_e1 f fd) (B : Bt mg) (KC : Kt K mg) (KL : Lt K mg) (WD : Zdt K w mg)  :
    FnOk P w K mg base CX0 1 f fd ["expression"] (spR K R_expression_words_e1) := by
  refine fn_ok (k := 0) F sc_expression_words_e1 (fun ds d h => by cases h <;> rfl) fun ds d hR cdv A outer s H E hr => ?_
  have nd := sc_expression_words_e1.nd
  have hu := hr.units
  rcases hR with ⟨L, d, x, hx, hd⟩
  walk_at "en"
  rcases x with n | ⟨o, l, r⟩ | ⟨o, n, y⟩
  rotate_left
  · exfalso; have := ex_pos l; unfold Ex.dep at hd; omega
  · exfalso; have := ex_pos y; unfold Ex.dep at hd; omega
  · skip
    refine ws_cons (ws_set 1 nd (ED.eq (d' := .str "layer") (ed_ix (ED.eq (d' := .tup [.str "layer", .str n]) (ed_var 0 rfl) rfl) ed_int IX.t0) rfl) ?_)
    walk_at "env"
    refine ws_cons (ws_if (TD.eq (td_cmp (ed_var 1 rfl) ed_str c2_eqS (by rfl)) rfl) (fun hc1 => ?_) (fun hc1 => ?_))
    · skip
      clear hc1
      refine ws_cons (ws_ret (ED.eq (ed_lst (eo_lst (ad_cons (ED.eq (d' := .str n) (ed_ix (ED.eq (d' := .tup [.str "layer", .str n]) (ed_var 0 rfl) rfl) ed_int IX.t1) rfl) ad_nil))) ?_) (Or.inl rfl))
      rfl
    · skip
      cases hc1
abbrev s_part_words_e1 : Stmt := top 34
theorem sc_part_words_e1 : FnScope ["expression", "words"] ["expression"] (defScope s_part_words_e1) := ⟨rfl, rfl, rfl, by decide +kernel, rfl, by decide +kernel, by decide +kernel⟩
theorem ok_part_words_e1 {f : Addr} {fd : FuncData} (F : Fun K "part_words" "part_words" s_part_words_e1 f fd) (B : Bt mg) (KC : Kt K mg) (KL : Lt K mg) (WD : Zdt K w mg) (G_expression_words_e1 : Fn P w K mg base "expression_words" 1 R_expression_words_e1) (G_expression_words_e1 : Fn P w K mg base "expression_words" 1 R_expression_words_e1) :
    FnOk P w K mg base CX0 2 f fd ["expression"] (spR K R_part_words_e1) := by
  refine fn_ok (k := 1) F sc_part_words_e1 (fun ds d h => by cases h <;> rfl) fun ds d hR cdv A outer s H E hr => ?_
  have nd := sc_part_words_e1.nd
  have hu := hr.units
  rcases hR with ⟨L, d, x, hx, hd⟩
  walk_at "en"
  rcases x with n | ⟨o, l, r⟩ | ⟨o, n, y⟩
  · skip
    have hl76 := ex_len5 (show (Ex.lay n).dep ≤ 5 by omega)
    have hx9 := hx
    refine ws_cons (ws_set 1 nd (ed_call G_expression_words_e1 (hr.mono (by decide)) (by rfl) (ad_cons (ed_var 0 rfl) ad_nil) (by exact .mk L d (Ex.lay n) hx9 hd)) ?_)
    walk_at "env"
    refine ws_cons (ws_ret (ED.eq (ed_if (d := .lst ((ptW (Ex.lay n)).map .str)) (TD.eq (td_cmp (ED.eq (d' := .str "layer") (ed_ix (ED.eq (d' := .tup [.str "layer", .str n]) (ed_var 0 rfl) rfl) ed_int IX.t0) rfl) (ed_const KC.«PAIRING» (by rfl)) (c2_inStr (ys := opL4) (.tup _)) (by rfl)) lay_notP) (fun h => by cases h) (fun _ => (ED.eq (ed_var 1 rfl) (by rw [ptW_f rfl])))) ?_) (Or.inl rfl))
    rfl
  · skip
    have hl76 := ex_len5 (show (Ex.two o l r).dep ≤ 5 by omega)
    have hx9 := hx
    refine ws_cons (ws_set 1 nd (ed_call G_expression_words_e1 (hr.mono (by decide)) (by rfl) (ad_cons (ed_var 0 rfl) ad_nil) (by exact .mk L d (Ex.two o l r) hx9 hd)) ?_)
    walk_at "env"
    refine ws_cons (ws_ret (ED.eq (ed_if (d := .lst ((ptW (Ex.two o l r)).map .str)) (TD.eq (td_cmp (ED.eq (d' := .str (opP o)) (ed_ix (ED.eq (d' := .tup [.str (opP o), l.e, r.e]) (ed_var 0 rfl) rfl) ed_int IX.t0) rfl) (ed_const KC.«PAIRING» (by rfl)) (c2_inStr (ys := opL4) (.tup _)) (by rfl)) (opP_in o)) (fun _ => (ED.eq (ed_lst (eo_lst (ad_cons ed_str (ad_starL (ed_var 1 rfl) (ad_cons ed_str ad_nil))) (by simp only [List.length_append, List.length_cons, List.length_map, List.length_nil]; rw [sizeLine_eq]; omega))) (show _ = D.lst ((ptW (Ex.two o l r)).map .str) by rw [ptW_t rfl]; simp))) (fun h => by cases h)) ?_) (Or.inl rfl))
    rfl
  · skip
    have hl76 := ex_len5 (show (Ex.siz o n y).dep ≤ 5 by omega)
    have hx9 := hx
    refine ws_cons (ws_set 1 nd (ed_call G_expression_words_e1 (hr.mono (by decide)) (by rfl) (ad_cons (ed_var 0 rfl) ad_nil) (by exact .mk L d (Ex.siz o n y) hx9 hd)) ?_)
    walk_at "env"
    refine ws_cons (ws_ret (ED.eq (ed_if (d := .lst ((ptW (Ex.siz o n y)).map .str)) (TD.eq (td_cmp (ED.eq (d' := .str (opS o)) (ed_ix (ED.eq (d' := .tup [.str (opS o), .int n, y.e]) (ed_var 0 rfl) rfl) ed_int IX.t0) rfl) (ed_const KC.«PAIRING» (by rfl)) (c2_inStr (ys := opL4) (.tup _)) (by rfl)) (opS_notP o)) (fun h => by cases h) (fun _ => (ED.eq (ed_var 1 rfl) (by rw [ptW_f rfl])))) ?_) (Or.inl rfl))
    rfl
abbrev s_expression_words_e2 : Stmt := top 33
theorem sc_expression_words_e2 : FnScope ["expression", "operation"] ["expression"] (defScope s_expression_words_e2) := ⟨rfl, rfl, rfl, by decide +kernel, rfl, by decide +kernel, by decide +kernel⟩
theorem ok_expression_words_e2 {f : Addr} {fd : FuncData} (F : Fun K "expression_words" "expression_words" s_expression_words_e2 f fd) (B : Bt mg) (KC : Kt K mg) (KL : Lt K mg) (WD : Zdt K w mg) (G_expression_words_e1 : Fn P w K mg base "expression_words" 1 R_expression_words_e1) (G_expression_words_e1 : Fn P w K mg base "expression_words" 1 R_expression_words_e1) (G_part_words_e1 : Fn P w K mg base "part_words" 2 R_part_words_e1) (G_part_words_e1 : Fn P w K mg base "part_words" 2 R_part_words_e1) :
    FnOk P w K mg base CX0 3 f fd ["expression"] (spR K R_expression_words_e2) := by
  refine fn_ok (k := 2) F sc_expression_words_e2 (fun ds d h => by cases h <;> rfl) fun ds d hR cdv A outer s H E hr => ?_
  have nd := sc_expression_words_e2.nd
  have hu := hr.units
  rcases hR with ⟨L, d, x, hx, hd⟩
  walk_at "en"
  rcases x with n | ⟨o, l, r⟩ | ⟨o, n, y⟩
  · skip
    refine ws_cons (ws_set 1 nd (ED.eq (d' := .str "layer") (ed_ix (ED.eq (d' := .tup [.str "layer", .str n]) (ed_var 0 rfl) rfl) ed_int IX.t0) rfl) ?_)
    walk_at "env"
    refine ws_cons (ws_if (TD.eq (td_cmp (ed_var 1 rfl) ed_str c2_eqS (by rfl)) rfl) (fun hc1 => ?_) (fun hc1 => ?_))
    · skip
      clear hc1
      refine ws_cons (ws_ret (ED.eq (ed_lst (eo_lst (ad_cons (ED.eq (d' := .str n) (ed_ix (ED.eq (d' := .tup [.str "layer", .str n]) (ed_var 0 rfl) rfl) ed_int IX.t1) rfl) ad_nil))) ?_) (Or.inl rfl))
      rfl
    · skip
      cases hc1
  · skip
    have hlr := two_lem hx
    have hdl : l.dep ≤ 1 ∧ r.dep ≤ 1 := by unfold Ex.dep at hd; omega
    have hl76 := ex_len5 (show (Ex.two o l r).dep ≤ 5 by omega)
    refine ws_cons (ws_set 1 nd (ED.eq (d' := .str (opP o)) (ed_ix (ED.eq (d' := .tup [.str (opP o), l.e, r.e]) (ed_var 0 rfl) rfl) ed_int IX.t0) rfl) ?_)
    walk_at "env"
    refine ws_cons (ws_if (TD.eq (td_cmp (ed_var 1 rfl) ed_str c2_eqS (by rfl)) (opP_lay o)) (fun hc2 => ?_) (fun hc2 => ?_))
    · skip
      cases hc2
    · skip
      clear hc2
      refine ws_nil ?_
      refine ws_cons (ws_if (TD.eq (td_cmp (ed_var 1 rfl) (ed_const KC.«PAIRING» (by rfl)) (c2_inStr (ys := opL4) (.tup _)) (by rfl)) (opP_in o)) (fun hc3 => ?_) (fun hc3 => ?_))
      · skip
        clear hc3
        refine ws_cons (ws_ret (ED.eq (ED.eq (ed_lst (eo_lst (ad_starL (ed_call G_expression_words_e1 (hr.mono (by decide)) (by rfl) (ad_cons (ED.eq (d' := l.e) (ed_ix (ED.eq (d' := .tup [.str (opP o), l.e, r.e]) (ed_var 0 rfl) rfl) ed_int IX.t1) rfl) ad_nil) (by exact .mk L _ l hlr.1 hdl.1)) (ad_cons (ed_var 1 rfl) (ad_starL (ed_call G_part_words_e1 (hr.mono (by decide)) (by rfl) (ad_cons (ED.eq (d' := r.e) (ed_ix (ED.eq (d' := .tup [.str (opP o), l.e, r.e]) (ed_var 0 rfl) rfl) ed_int IX.t2) rfl) ad_nil) (by exact .mk L _ r hlr.2 hdl.2)) ad_nil))) (by rw [exW_two, List.length_append, List.length_cons] at hl76; simp only [List.length_append, List.length_cons, List.length_map, List.length_nil]; rw [sizeLine_eq]; omega))) (show _ = D.lst ((exW (Ex.two o l r)).map .str) by rw [exW_two]; simp)) ?_) (Or.inl rfl))
        rfl
      · skip
        cases hc3
  · skip
    obtain ⟨hsz, hy⟩ := siz_lem hx
    have hdy : y.dep ≤ 1 := by unfold Ex.dep at hd; omega
    have hl76 := ex_len5 (show (Ex.siz o n y).dep ≤ 5 by omega)
    refine ws_cons (ws_set 1 nd (ED.eq (d' := .str (opS o)) (ed_ix (ED.eq (d' := .tup [.str (opS o), .int n, y.e]) (ed_var 0 rfl) rfl) ed_int IX.t0) rfl) ?_)
    walk_at "env"
    refine ws_cons (ws_if (TD.eq (td_cmp (ed_var 1 rfl) ed_str c2_eqS (by rfl)) (opS_lay o)) (fun hc4 => ?_) (fun hc4 => ?_))
    · skip
      cases hc4
    · skip
      clear hc4
      refine ws_nil ?_
      refine ws_cons (ws_if (TD.eq (td_cmp (ed_var 1 rfl) (ed_const KC.«PAIRING» (by rfl)) (c2_inStr (ys := opL4) (.tup _)) (by rfl)) (opS_notP o)) (fun hc5 => ?_) (fun hc5 => ?_))
      · skip
        cases hc5
      · skip
        clear hc5
        refine ws_nil ?_
        refine ws_cons (ws_ret (ED.eq (ED.eq (ed_lst (eo_lst (ad_cons (ed_var 1 rfl) (ad_cons (ed_callT (T := "str") (by rfl) B.«str» bb_str (ad_cons (ED.eq (d' := .int n) (ed_ix (ED.eq (d' := .tup [.str (opS o), .int n, y.e]) (ed_var 0 rfl) rfl) ed_int IX.t1) rfl) ad_nil) (bc_strI (szE_rz hsz).sm.log)) (ad_starL (ed_call G_part_words_e1 (hr.mono (by decide)) (by rfl) (ad_cons (ED.eq (d' := y.e) (ed_ix (ED.eq (d' := .tup [.str (opS o), .int n, y.e]) (ed_var 0 rfl) rfl) ed_int IX.t2) rfl) ad_nil) (by exact .mk L _ y hy hdy)) ad_nil))) (by rw [exW_siz, List.length_cons, List.length_cons] at hl76; simp only [List.length_append, List.length_cons, List.length_map, List.length_nil]; rw [sizeLine_eq]; omega))) (show _ = D.lst ((exW (Ex.siz o n y)).map .str) by rw [exW_siz]; simp; rfl)) ?_) (Or.inl rfl))
        rfl
abbrev s_part_words_e2 : Stmt := top 34
theorem sc_part_words_e2 : FnScope ["expression", "words"] ["expression"] (defScope s_part_words_e2) := ⟨rfl, rfl, rfl, by decide +kernel, rfl, by decide +kernel, by decide +kernel⟩
theorem ok_part_words_e2 {f : Addr} {fd : FuncData} (F : Fun K "part_words" "part_words" s_part_words_e2 f fd) (B : Bt mg) (KC : Kt K mg) (KL : Lt K mg) (WD : Zdt K w mg) (G_expression_words_e2 : Fn P w K mg base "expression_words" 3 R_expression_words_e2) (G_expression_words_e2 : Fn P w K mg base "expression_words" 3 R_expression_words_e2) :
    FnOk P w K mg base CX0 4 f fd ["expression"] (spR K R_part_words_e2) := by
  refine fn_ok (k := 3) F sc_part_words_e2 (fun ds d h => by cases h <;> rfl) fun ds d hR cdv A outer s H E hr => ?_
  have nd := sc_part_words_e2.nd
  have hu := hr.units
  rcases hR with ⟨L, d, x, hx, hd⟩
  walk_at "en"
  rcases x with n | ⟨o, l, r⟩ | ⟨o, n, y⟩
  · skip
    have hl76 := ex_len5 (show (Ex.lay n).dep ≤ 5 by omega)
    have hx9 := hx
    refine ws_cons (ws_set 1 nd (ed_call G_expression_words_e2 (hr.mono (by decide)) (by rfl) (ad_cons (ed_var 0 rfl) ad_nil) (by exact .mk L d (Ex.lay n) hx9 hd)) ?_)
    walk_at "env"
    refine ws_cons (ws_ret (ED.eq (ed_if (d := .lst ((ptW (Ex.lay n)).map .str)) (TD.eq (td_cmp (ED.eq (d' := .str "layer") (ed_ix (ED.eq (d' := .tup [.str "layer", .str n]) (ed_var 0 rfl) rfl) ed_int IX.t0) rfl) (ed_const KC.«PAIRING» (by rfl)) (c2_inStr (ys := opL4) (.tup _)) (by rfl)) lay_notP) (fun h => by cases h) (fun _ => (ED.eq (ed_var 1 rfl) (by rw [ptW_f rfl])))) ?_) (Or.inl rfl))
    rfl
  · skip
    have hl76 := ex_len5 (show (Ex.two o l r).dep ≤ 5 by omega)
    have hx9 := hx
    refine ws_cons (ws_set 1 nd (ed_call G_expression_words_e2 (hr.mono (by decide)) (by rfl) (ad_cons (ed_var 0 rfl) ad_nil) (by exact .mk L d (Ex.two o l r) hx9 hd)) ?_)
    walk_at "env"
    refine ws_cons (ws_ret (ED.eq (ed_if (d := .lst ((ptW (Ex.two o l r)).map .str)) (TD.eq (td_cmp (ED.eq (d' := .str (opP o)) (ed_ix (ED.eq (d' := .tup [.str (opP o), l.e, r.e]) (ed_var 0 rfl) rfl) ed_int IX.t0) rfl) (ed_const KC.«PAIRING» (by rfl)) (c2_inStr (ys := opL4) (.tup _)) (by rfl)) (opP_in o)) (fun _ => (ED.eq (ed_lst (eo_lst (ad_cons ed_str (ad_starL (ed_var 1 rfl) (ad_cons ed_str ad_nil))) (by simp only [List.length_append, List.length_cons, List.length_map, List.length_nil]; rw [sizeLine_eq]; omega))) (show _ = D.lst ((ptW (Ex.two o l r)).map .str) by rw [ptW_t rfl]; simp))) (fun h => by cases h)) ?_) (Or.inl rfl))
    rfl
  · skip
    have hl76 := ex_len5 (show (Ex.siz o n y).dep ≤ 5 by omega)
    have hx9 := hx
    refine ws_cons (ws_set 1 nd (ed_call G_expression_words_e2 (hr.mono (by decide)) (by rfl) (ad_cons (ed_var 0 rfl) ad_nil) (by exact .mk L d (Ex.siz o n y) hx9 hd)) ?_)
    walk_at "env"
    refine ws_cons (ws_ret (ED.eq (ed_if (d := .lst ((ptW (Ex.siz o n y)).map .str)) (TD.eq (td_cmp (ED.eq (d' := .str (opS o)) (ed_ix (ED.eq (d' := .tup [.str (opS o), .int n, y.e]) (ed_var 0 rfl) rfl) ed_int IX.t0) rfl) (ed_const KC.«PAIRING» (by rfl)) (c2_inStr (ys := opL4) (.tup _)) (by rfl)) (opS_notP o)) (fun h => by cases h) (fun _ => (ED.eq (ed_var 1 rfl) (by rw [ptW_f rfl])))) ?_) (Or.inl rfl))
    rfl
abbrev s_expression_words_e3 : Stmt := top 33
theorem sc_expression_words_e3 : FnScope ["expression", "operation"] ["expression"] (defScope s_expression_words_e3) := ⟨rfl, rfl, rfl, by decide +kernel, rfl, by decide +kernel, by decide +kernel⟩
theorem ok_expression_words_e3 {f : Addr} {fd : FuncData} (F : Fun K "expression_words" "expression_words" s_expression_words_e3 f fd) (B : Bt mg) (KC : Kt K mg) (KL : Lt K mg) (WD : Zdt K w mg) (G_expression_words_e2 : Fn P w K mg base "expression_words" 3 R_expression_words_e2) (G_expression_words_e2 : Fn P w K mg base "expression_words" 3 R_expression_words_e2) (G_part_words_e2 : Fn P w K mg base "part_words" 4 R_part_words_e2) (G_part_words_e2 : Fn P w K mg base "part_words" 4 R_part_words_e2) :
    FnOk P w K mg base CX0 5 f fd ["expression"] (spR K R_expression_words_e3) := by
  refine fn_ok (k := 4) F sc_expression_words_e3 (fun ds d h => by cases h <;> rfl) fun ds d hR cdv A outer s H E hr => ?_
  have nd := sc_expression_words_e3.nd
  have hu := hr.units
  rcases hR with ⟨L, d, x, hx, hd⟩
  walk_at "en"
  rcases x with n | ⟨o, l, r⟩ | ⟨o, n, y⟩
  · skip
    refine ws_cons (ws_set 1 nd (ED.eq (d' := .str "layer") (ed_ix (ED.eq (d' := .tup [.str "layer", .str n]) (ed_var 0 rfl) rfl) ed_int IX.t0) rfl) ?_)
    walk_at "env"
    refine ws_cons (ws_if (TD.eq (td_cmp (ed_var 1 rfl) ed_str c2_eqS (by rfl)) rfl) (fun hc1 => ?_) (fun hc1 => ?_))
    · skip
      clear hc1
      refine ws_cons (ws_ret (ED.eq (ed_lst (eo_lst (ad_cons (ED.eq (d' := .str n) (ed_ix (ED.eq (d' := .tup [.str "layer", .str n]) (ed_var 0 rfl) rfl) ed_int IX.t1) rfl) ad_nil))) ?_) (Or.inl rfl))
      rfl
    · skip
      cases hc1
  · skip
    have hlr := two_lem hx
    have hdl : l.dep ≤ 2 ∧ r.dep ≤ 2 := by unfold Ex.dep at hd; omega
    have hl76 := ex_len5 (show (Ex.two o l r).dep ≤ 5 by omega)
    refine ws_cons (ws_set 1 nd (ED.eq (d' := .str (opP o)) (ed_ix (ED.eq (d' := .tup [.str (opP o), l.e, r.e]) (ed_var 0 rfl) rfl) ed_int IX.t0) rfl) ?_)
    walk_at "env"
    refine ws_cons (ws_if (TD.eq (td_cmp (ed_var 1 rfl) ed_str c2_eqS (by rfl)) (opP_lay o)) (fun hc2 => ?_) (fun hc2 => ?_))
    · skip
      cases hc2
    · skip
      clear hc2
      refine ws_nil ?_
      refine ws_cons (ws_if (TD.eq (td_cmp (ed_var 1 rfl) (ed_const KC.«PAIRING» (by rfl)) (c2_inStr (ys := opL4) (.tup _)) (by rfl)) (opP_in o)) (fun hc3 => ?_) (fun hc3 => ?_))
      · skip
        clear hc3
        refine ws_cons (ws_ret (ED.eq (ED.eq (ed_lst (eo_lst (ad_starL (ed_call G_expression_words_e2 (hr.mono (by decide)) (by rfl) (ad_cons (ED.eq (d' := l.e) (ed_ix (ED.eq (d' := .tup [.str (opP o), l.e, r.e]) (ed_var 0 rfl) rfl) ed_int IX.t1) rfl) ad_nil) (by exact .mk L _ l hlr.1 hdl.1)) (ad_cons (ed_var 1 rfl) (ad_starL (ed_call G_part_words_e2 (hr.mono (by decide)) (by rfl) (ad_cons (ED.eq (d' := r.e) (ed_ix (ED.eq (d' := .tup [.str (opP o), l.e, r.e]) (ed_var 0 rfl) rfl) ed_int IX.t2) rfl) ad_nil) (by exact .mk L _ r hlr.2 hdl.2)) ad_nil))) (by rw [exW_two, List.length_append, List.length_cons] at hl76; simp only [List.length_append, List.length_cons, List.length_map, List.length_nil]; rw [sizeLine_eq]; omega))) (show _ = D.lst ((exW (Ex.two o l r)).map .str) by rw [exW_two]; simp)) ?_) (Or.inl rfl))
        rfl
      · skip
        cases hc3
  · skip
    obtain ⟨hsz, hy⟩ := siz_lem hx
    have hdy : y.dep ≤ 2 := by unfold Ex.dep at hd; omega
    have hl76 := ex_len5 (show (Ex.siz o n y).dep ≤ 5 by omega)
    refine ws_cons (ws_set 1 nd (ED.eq (d' := .str (opS o)) (ed_ix (ED.eq (d' := .tup [.str (opS o), .int n, y.e]) (ed_var 0 rfl) rfl) ed_int IX.t0) rfl) ?_)
    walk_at "env"
    refine ws_cons (ws_if (TD.eq (td_cmp (ed_var 1 rfl) ed_str c2_eqS (by rfl)) (opS_lay o)) (fun hc4 => ?_) (fun hc4 => ?_))
    · skip
      cases hc4
    · skip
      clear hc4
      refine ws_nil ?_
      refine ws_cons (ws_if (TD.eq (td_cmp (ed_var 1 rfl) (ed_const KC.«PAIRING» (by rfl)) (c2_inStr (ys := opL4) (.tup _)) (by rfl)) (opS_notP o)) (fun hc5 => ?_) (fun hc5 => ?_))
      · skip
        cases hc5
      · skip
        clear hc5
        refine ws_nil ?_
        refine ws_cons (ws_ret (ED.eq (ED.eq (ed_lst (eo_lst (ad_cons (ed_var 1 rfl) (ad_cons (ed_callT (T := "str") (by rfl) B.«str» bb_str (ad_cons (ED.eq (d' := .int n) (ed_ix (ED.eq (d' := .tup [.str (opS o), .int n, y.e]) (ed_var 0 rfl) rfl) ed_int IX.t1) rfl) ad_nil) (bc_strI (szE_rz hsz).sm.log)) (ad_starL (ed_call G_part_words_e2 (hr.mono (by decide)) (by rfl) (ad_cons (ED.eq (d' := y.e) (ed_ix (ED.eq (d' := .tup [.str (opS o), .int n, y.e]) (ed_var 0 rfl) rfl) ed_int IX.t2) rfl) ad_nil) (by exact .mk L _ y hy hdy)) ad_nil))) (by rw [exW_siz, List.length_cons, List.length_cons] at hl76; simp only [List.length_append, List.length_cons, List.length_map, List.length_nil]; rw [sizeLine_eq]; omega))) (show _ = D.lst ((exW (Ex.siz o n y)).map .str) by rw [exW_siz]; simp; rfl)) ?_) (Or.inl rfl))
        rfl
abbrev s_part_words_e3 : Stmt := top 34
theorem sc_part_words_e3 : FnScope ["expression", "words"] ["expression"] (defScope s_part_words_e3) := ⟨rfl, rfl, rfl, by decide +kernel, rfl, by decide +kernel, by decide +kernel⟩
theorem ok_part_words_e3 {f : Addr} {fd : FuncData} (F : Fun K "part_words" "part_words" s_part_words_e3 f fd) (B : Bt mg) (KC : Kt K mg) (KL : Lt K mg) (WD : Zdt K w mg) (G_expression_words_e3 : Fn P w K mg base "expression_words" 5 R_expression_words_e3) (G_expression_words_e3 : Fn P w K mg base "expression_words" 5 R_expression_words_e3) :
    FnOk P w K mg base CX0 6 f fd ["expression"] (spR K R_part_words_e3) := by
  refine fn_ok (k := 5) F sc_part_words_e3 (fun ds d h => by cases h <;> rfl) fun ds d hR cdv A outer s H E hr => ?_
  have nd := sc_part_words_e3.nd
  have hu := hr.units
  rcases hR with ⟨L, d, x, hx, hd⟩
  walk_at "en"
  rcases x with n | ⟨o, l, r⟩ | ⟨o, n, y⟩
  · skip
    have hl76 := ex_len5 (show (Ex.lay n).dep ≤ 5 by omega)
    have hx9 := hx
    refine ws_cons (ws_set 1 nd (ed_call G_expression_words_e3 (hr.mono (by decide)) (by rfl) (ad_cons (ed_var 0 rfl) ad_nil) (by exact .mk L d (Ex.lay n) hx9 hd)) ?_)
    walk_at "env"
    refine ws_cons (ws_ret (ED.eq (ed_if (d := .lst ((ptW (Ex.lay n)).map .str)) (TD.eq (td_cmp (ED.eq (d' := .str "layer") (ed_ix (ED.eq (d' := .tup [.str "layer", .str n]) (ed_var 0 rfl) rfl) ed_int IX.t0) rfl) (ed_const KC.«PAIRING» (by rfl)) (c2_inStr (ys := opL4) (.tup _)) (by rfl)) lay_notP) (fun h => by cases h) (fun _ => (ED.eq (ed_var 1 rfl) (by rw [ptW_f rfl])))) ?_) (Or.inl rfl))
    rfl
  · skip
    have hl76 := ex_len5 (show (Ex.two o l r).dep ≤ 5 by omega)
    have hx9 := hx
    refine ws_cons (ws_set 1 nd (ed_call G_expression_words_e3 (hr.mono (by decide)) (by rfl) (ad_cons (ed_var 0 rfl) ad_nil) (by exact .mk L d (Ex.two o l r) hx9 hd)) ?_)
    walk_at "env"
    refine ws_cons (ws_ret (ED.eq (ed_if (d := .lst ((ptW (Ex.two o l r)).map .str)) (TD.eq (td_cmp (ED.eq (d' := .str (opP o)) (ed_ix (ED.eq (d' := .tup [.str (opP o), l.e, r.e]) (ed_var 0 rfl) rfl) ed_int IX.t0) rfl) (ed_const KC.«PAIRING» (by rfl)) (c2_inStr (ys := opL4) (.tup _)) (by rfl)) (opP_in o)) (fun _ => (ED.eq (ed_lst (eo_lst (ad_cons ed_str (ad_starL (ed_var 1 rfl) (ad_cons ed_str ad_nil))) (by simp only [List.length_append, List.length_cons, List.length_map, List.length_nil]; rw [sizeLine_eq]; omega))) (show _ = D.lst ((ptW (Ex.two o l r)).map .str) by rw [ptW_t rfl]; simp))) (fun h => by cases h)) ?_) (Or.inl rfl))
    rfl
  · skip
    have hl76 := ex_len5 (show (Ex.siz o n y).dep ≤ 5 by omega)
    have hx9 := hx
    refine ws_cons (ws_set 1 nd (ed_call G_expression_words_e3 (hr.mono (by decide)) (by rfl) (ad_cons (ed_var 0 rfl) ad_nil) (by exact .mk L d (Ex.siz o n y) hx9 hd)) ?_)
    walk_at "env"
    refine ws_cons (ws_ret (ED.eq (ed_if (d := .lst ((ptW (Ex.siz o n y)).map .str)) (TD.eq (td_cmp (ED.eq (d' := .str (opS o)) (ed_ix (ED.eq (d' := .tup [.str (opS o), .int n, y.e]) (ed_var 0 rfl) rfl) ed_int IX.t0) rfl) (ed_const KC.«PAIRING» (by rfl)) (c2_inStr (ys := opL4) (.tup _)) (by rfl)) (opS_notP o)) (fun h => by cases h) (fun _ => (ED.eq (ed_var 1 rfl) (by rw [ptW_f rfl])))) ?_) (Or.inl rfl))
    rfl
abbrev s_expression_words_e4 : Stmt := top 33
theorem sc_expression_words_e4 : FnScope ["expression", "operation"] ["expression"] (defScope s_expression_words_e4) := ⟨rfl, rfl, rfl, by decide +kernel, rfl, by decide +kernel, by decide +kernel⟩
theorem ok_expression_words_e4 {f : Addr} {fd : FuncData} (F : Fun K "expression_words" "expression_words" s_expression_words_e4 f fd) (B : Bt mg) (KC : Kt K mg) (KL : Lt K mg) (WD : Zdt K w mg) (G_expression_words_e3 : Fn P w K mg base "expression_words" 5 R_expression_words_e3) (G_expression_words_e3 : Fn P w K mg base "expression_words" 5 R_expression_words_e3) (G_part_words_e3 : Fn P w K mg base "part_words" 6 R_part_words_e3) (G_part_words_e3 : Fn P w K mg base "part_words" 6 R_part_words_e3) :
    FnOk P w K mg base CX0 7 f fd ["expression"] (spR K R_expression_words_e4) := by
  refine fn_ok (k := 6) F sc_expression_words_e4 (fun ds d h => by cases h <;> rfl) fun ds d hR cdv A outer s H E hr => ?_
  have nd := sc_expression_words_e4.nd
  have hu := hr.units
  rcases hR with ⟨L, d, x, hx, hd⟩
  walk_at "en"
  rcases x with n | ⟨o, l, r⟩ | ⟨o, n, y⟩
  · skip
    refine ws_cons (ws_set 1 nd (ED.eq (d' := .str "layer") (ed_ix (ED.eq (d' := .tup [.str "layer", .str n]) (ed_var 0 rfl) rfl) ed_int IX.t0) rfl) ?_)
    walk_at "env"
    refine ws_cons (ws_if (TD.eq (td_cmp (ed_var 1 rfl) ed_str c2_eqS (by rfl)) rfl) (fun hc1 => ?_) (fun hc1 => ?_))
    · skip
      clear hc1
      refine ws_cons (ws_ret (ED.eq (ed_lst (eo_lst (ad_cons (ED.eq (d' := .str n) (ed_ix (ED.eq (d' := .tup [.str "layer", .str n]) (ed_var 0 rfl) rfl) ed_int IX.t1) rfl) ad_nil))) ?_) (Or.inl rfl))
      rfl
    · skip
      cases hc1
  · skip
    have hlr := two_lem hx
    have hdl : l.dep ≤ 3 ∧ r.dep ≤ 3 := by unfold Ex.dep at hd; omega
    have hl76 := ex_len5 (show (Ex.two o l r).dep ≤ 5 by omega)
    refine ws_cons (ws_set 1 nd (ED.eq (d' := .str (opP o)) (ed_ix (ED.eq (d' := .tup [.str (opP o), l.e, r.e]) (ed_var 0 rfl) rfl) ed_int IX.t0) rfl) ?_)
    walk_at "env"
    refine ws_cons (ws_if (TD.eq (td_cmp (ed_var 1 rfl) ed_str c2_eqS (by rfl)) (opP_lay o)) (fun hc2 => ?_) (fun hc2 => ?_))
    · skip
      cases hc2
    · skip
      clear hc2
      refine ws_nil ?_
      refine ws_cons (ws_if (TD.eq (td_cmp (ed_var 1 rfl) (ed_const KC.«PAIRING» (by rfl)) (c2_inStr (ys := opL4) (.tup _)) (by rfl)) (opP_in o)) (fun hc3 => ?_) (fun hc3 => ?_))
      · skip
        clear hc3
        refine ws_cons (ws_ret (ED.eq (ED.eq (ed_lst (eo_lst (ad_starL (ed_call G_expression_words_e3 (hr.mono (by decide)) (by rfl) (ad_cons (ED.eq (d' := l.e) (ed_ix (ED.eq (d' := .tup [.str (opP o), l.e, r.e]) (ed_var 0 rfl) rfl) ed_int IX.t1) rfl) ad_nil) (by exact .mk L _ l hlr.1 hdl.1)) (ad_cons (ed_var 1 rfl) (ad_starL (ed_call G_part_words_e3 (hr.mono (by decide)) (by rfl) (ad_cons (ED.eq (d' := r.e) (ed_ix (ED.eq (d' := .tup [.str (opP o), l.e, r.e]) (ed_var 0 rfl) rfl) ed_int IX.t2) rfl) ad_nil) (by exact .mk L _ r hlr.2 hdl.2)) ad_nil))) (by rw [exW_two, List.length_append, List.length_cons] at hl76; simp only [List.length_append, List.length_cons, List.length_map, List.length_nil]; rw [sizeLine_eq]; omega))) (show _ = D.lst ((exW (Ex.two o l r)).map .str) by rw [exW_two]; simp)) ?_) (Or.inl rfl))
        rfl
      · skip
        cases hc3
  · skip
    obtain ⟨hsz, hy⟩ := siz_lem hx
    have hdy : y.dep ≤ 3 := by unfold Ex.dep at hd; omega
    have hl76 := ex_len5 (show (Ex.siz o n y).dep ≤ 5 by omega)
    refine ws_cons (ws_set 1 nd (ED.eq (d' := .str (opS o)) (ed_ix (ED.eq (d' := .tup [.str (opS o), .int n, y.e]) (ed_var 0 rfl) rfl) ed_int IX.t0) rfl) ?_)
    walk_at "env"
    refine ws_cons (ws_if (TD.eq (td_cmp (ed_var 1 rfl) ed_str c2_eqS (by rfl)) (opS_lay o)) (fun hc4 => ?_) (fun hc4 => ?_))
    · skip
      cases hc4
    · skip
      clear hc4
      refine ws_nil ?_
      refine ws_cons (ws_if (TD.eq (td_cmp (ed_var 1 rfl) (ed_const KC.«PAIRING» (by rfl)) (c2_inStr (ys := opL4) (.tup _)) (by rfl)) (opS_notP o)) (fun hc5 => ?_) (fun hc5 => ?_))
      · skip
        cases hc5
      · skip
        clear hc5
        refine ws_nil ?_
        refine ws_cons (ws_ret (ED.eq (ED.eq (ed_lst (eo_lst (ad_cons (ed_var 1 rfl) (ad_cons (ed_callT (T := "str") (by rfl) B.«str» bb_str (ad_cons (ED.eq (d' := .int n) (ed_ix (ED.eq (d' := .tup [.str (opS o), .int n, y.e]) (ed_var 0 rfl) rfl) ed_int IX.t1) rfl) ad_nil) (bc_strI (szE_rz hsz).sm.log)) (ad_starL (ed_call G_part_words_e3 (hr.mono (by decide)) (by rfl) (ad_cons (ED.eq (d' := y.e) (ed_ix (ED.eq (d' := .tup [.str (opS o), .int n, y.e]) (ed_var 0 rfl) rfl) ed_int IX.t2) rfl) ad_nil) (by exact .mk L _ y hy hdy)) ad_nil))) (by rw [exW_siz, List.length_cons, List.length_cons] at hl76; simp only [List.length_append, List.length_cons, List.length_map, List.length_nil]; rw [sizeLine_eq]; omega))) (show _ = D.lst ((exW (Ex.siz o n y)).map .str) by rw [exW_siz]; simp; rfl)) ?_) (Or.inl rfl))
        rfl
abbrev s_part_words_e4 : Stmt := top 34
theorem sc_part_words_e4 : FnScope ["expression", "words"] ["expression"] (defScope s_part_words_e4) := ⟨rfl, rfl, rfl, by decide +kernel, rfl, by decide +kernel, by decide +kernel⟩
theorem ok_part_words_e4 {f : Addr} {fd : FuncData} (F : Fun K "part_words" "part_words" s_part_words_e4 f fd) (B : Bt mg) (KC : Kt K mg) (KL : Lt K mg) (WD : Zdt K w mg) (G_expression_words_e4 : Fn P w K mg base "expression_words" 7 R_expression_words_e4) (G_expression_words_e4 : Fn P w K mg base "expression_words" 7 R_expression_words_e4) :
    FnOk P w K mg base CX0 8 f fd ["expression"] (spR K R_part_words_e4) := by
  refine fn_ok (k := 7) F sc_part_words_e4 (fun ds d h => by cases h <;> rfl) fun ds d hR cdv A outer s H E hr => ?_
  have nd := sc_part_words_e4.nd
  have hu := hr.units
  rcases hR with ⟨L, d, x, hx, hd⟩
  walk_at "en"
  rcases x with n | ⟨o, l, r⟩ | ⟨o, n, y⟩
  · skip
    have hl76 := ex_len5 (show (Ex.lay n).dep ≤ 5 by omega)
    have hx9 := hx
    refine ws_cons (ws_set 1 nd (ed_call G_expression_words_e4 (hr.mono (by decide)) (by rfl) (ad_cons (ed_var 0 rfl) ad_nil) (by exact .mk L d (Ex.lay n) hx9 hd)) ?_)
    walk_at "env"
    refine ws_cons (ws_ret (ED.eq (ed_if (d := .lst ((ptW (Ex.lay n)).map .str)) (TD.eq (td_cmp (ED.eq (d' := .str "layer") (ed_ix (ED.eq (d' := .tup [.str "layer", .str n]) (ed_var 0 rfl) rfl) ed_int IX.t0) rfl) (ed_const KC.«PAIRING» (by rfl)) (c2_inStr (ys := opL4) (.tup _)) (by rfl)) lay_notP) (fun h => by cases h) (fun _ => (ED.eq (ed_var 1 rfl) (by rw [ptW_f rfl])))) ?_) (Or.inl rfl))
    rfl
  · skip
    have hl76 := ex_len5 (show (Ex.two o l r).dep ≤ 5 by omega)
    have hx9 := hx
    refine ws_cons (ws_set 1 nd (ed_call G_expression_words_e4 (hr.mono (by decide)) (by rfl) (ad_cons (ed_var 0 rfl) ad_nil) (by exact .mk L d (Ex.two o l r) hx9 hd)) ?_)
    walk_at "env"
    refine ws_cons (ws_ret (ED.eq (ed_if (d := .lst ((ptW (Ex.two o l r)).map .str)) (TD.eq (td_cmp (ED.eq (d' := .str (opP o)) (ed_ix (ED.eq (d' := .tup [.str (opP o), l.e, r.e]) (ed_var 0 rfl) rfl) ed_int IX.t0) rfl) (ed_const KC.«PAIRING» (by rfl)) (c2_inStr (ys := opL4) (.tup _)) (by rfl)) (opP_in o)) (fun _ => (ED.eq (ed_lst (eo_lst (ad_cons ed_str (ad_starL (ed_var 1 rfl) (ad_cons ed_str ad_nil))) (by simp only [List.length_append, List.length_cons, List.length_map, List.length_nil]; rw [sizeLine_eq]; omega))) (show _ = D.lst ((ptW (Ex.two o l r)).map .str) by rw [ptW_t rfl]; simp))) (fun h => by cases h)) ?_) (Or.inl rfl))
    rfl
  · skip
    have hl76 := ex_len5 (show (Ex.siz o n y).dep ≤ 5 by omega)
    have hx9 := hx
    refine ws_cons (ws_set 1 nd (ed_call G_expression_words_e4 (hr.mono (by decide)) (by rfl) (ad_cons (ed_var 0 rfl) ad_nil) (by exact .mk L d (Ex.siz o n y) hx9 hd)) ?_)
    walk_at "env"
    refine ws_cons (ws_ret (ED.eq (ed_if (d := .lst ((ptW (Ex.siz o n y)).map .str)) (TD.eq (td_cmp (ED.eq (d' := .str (opS o)) (ed_ix (ED.eq (d' := .tup [.str (opS o), .int n, y.e]) (ed_var 0 rfl) rfl) ed_int IX.t0) rfl) (ed_const KC.«PAIRING» (by rfl)) (c2_inStr (ys := opL4) (.tup _)) (by rfl)) (opS_notP o)) (fun h => by cases h) (fun _ => (ED.eq (ed_var 1 rfl) (by rw [ptW_f rfl])))) ?_) (Or.inl rfl))
    rfl
abbrev s_expression_words_e5 : Stmt := top 33
theorem sc_expression_words_e5 : FnScope ["expression", "operation"] ["expression"] (defScope s_expression_words_e5) := ⟨rfl, rfl, rfl, by decide +kernel, rfl, by decide +kernel, by decide +kernel⟩
theorem ok_expression_words_e5 {f : Addr} {fd : FuncData} (F : Fun K "expression_words" "expression_words" s_expression_words_e5 f fd) (B : Bt mg) (KC : Kt K mg) (KL : Lt K mg) (WD : Zdt K w mg) (G_expression_words_e4 : Fn P w K mg base "expression_words" 7 R_expression_words_e4) (G_expression_words_e4 : Fn P w K mg base "expression_words" 7 R_expression_words_e4) (G_part_words_e4 : Fn P w K mg base "part_words" 8 R_part_words_e4) (G_part_words_e4 : Fn P w K mg base "part_words" 8 R_part_words_e4) :
    FnOk P w K mg base CX0 9 f fd ["expression"] (spR K R_expression_words_e5) := by
  refine fn_ok (k := 8) F sc_expression_words_e5 (fun ds d h => by cases h <;> rfl) fun ds d hR cdv A outer s H E hr => ?_
  have nd := sc_expression_words_e5.nd
  have hu := hr.units
  rcases hR with ⟨L, d, x, hx, hd⟩
  walk_at "en"
  rcases x with n | ⟨o, l, r⟩ | ⟨o, n, y⟩
  · skip
    refine ws_cons (ws_set 1 nd (ED.eq (d' := .str "layer") (ed_ix (ED.eq (d' := .tup [.str "layer", .str n]) (ed_var 0 rfl) rfl) ed_int IX.t0) rfl) ?_)
    walk_at "env"
    refine ws_cons (ws_if (TD.eq (td_cmp (ed_var 1 rfl) ed_str c2_eqS (by rfl)) rfl) (fun hc1 => ?_) (fun hc1 => ?_))
    · skip
      clear hc1
      refine ws_cons (ws_ret (ED.eq (ed_lst (eo_lst (ad_cons (ED.eq (d' := .str n) (ed_ix (ED.eq (d' := .tup [.str "layer", .str n]) (ed_var 0 rfl) rfl) ed_int IX.t1) rfl) ad_nil))) ?_) (Or.inl rfl))
      rfl
    · skip
      cases hc1
  · skip
    have hlr := two_lem hx
    have hdl : l.dep ≤ 4 ∧ r.dep ≤ 4 := by unfold Ex.dep at hd; omega
    have hl76 := ex_len5 (show (Ex.two o l r).dep ≤ 5 by omega)
    refine ws_cons (ws_set 1 nd (ED.eq (d' := .str (opP o)) (ed_ix (ED.eq (d' := .tup [.str (opP o), l.e, r.e]) (ed_var 0 rfl) rfl) ed_int IX.t0) rfl) ?_)
    walk_at "env"
    refine ws_cons (ws_if (TD.eq (td_cmp (ed_var 1 rfl) ed_str c2_eqS (by rfl)) (opP_lay o)) (fun hc2 => ?_) (fun hc2 => ?_))
    · skip
      cases hc2
    · skip
      clear hc2
      refine ws_nil ?_
      refine ws_cons (ws_if (TD.eq (td_cmp (ed_var 1 rfl) (ed_const KC.«PAIRING» (by rfl)) (c2_inStr (ys := opL4) (.tup _)) (by rfl)) (opP_in o)) (fun hc3 => ?_) (fun hc3 => ?_))
      · skip
        clear hc3
        refine ws_cons (ws_ret (ED.eq (ED.eq (ed_lst (eo_lst (ad_starL (ed_call G_expression_words_e4 (hr.mono (by decide)) (by rfl) (ad_cons (ED.eq (d' := l.e) (ed_ix (ED.eq (d' := .tup [.str (opP o), l.e, r.e]) (ed_var 0 rfl) rfl) ed_int IX.t1) rfl) ad_nil) (by exact .mk L _ l hlr.1 hdl.1)) (ad_cons (ed_var 1 rfl) (ad_starL (ed_call G_part_words_e4 (hr.mono (by decide)) (by rfl) (ad_cons (ED.eq (d' := r.e) (ed_ix (ED.eq (d' := .tup [.str (opP o), l.e, r.e]) (ed_var 0 rfl) rfl) ed_int IX.t2) rfl) ad_nil) (by exact .mk L _ r hlr.2 hdl.2)) ad_nil))) (by rw [exW_two, List.length_append, List.length_cons] at hl76; simp only [List.length_append, List.length_cons, List.length_map, List.length_nil]; rw [sizeLine_eq]; omega))) (show _ = D.lst ((exW (Ex.two o l r)).map .str) by rw [exW_two]; simp)) ?_) (Or.inl rfl))
        rfl
      · skip
        cases hc3
  · skip
    obtain ⟨hsz, hy⟩ := siz_lem hx
    have hdy : y.dep ≤ 4 := by unfold Ex.dep at hd; omega
    have hl76 := ex_len5 (show (Ex.siz o n y).dep ≤ 5 by omega)
    refine ws_cons (ws_set 1 nd (ED.eq (d' := .str (opS o)) (ed_ix (ED.eq (d' := .tup [.str (opS o), .int n, y.e]) (ed_var 0 rfl) rfl) ed_int IX.t0) rfl) ?_)
    walk_at "env"
    refine ws_cons (ws_if (TD.eq (td_cmp (ed_var 1 rfl) ed_str c2_eqS (by rfl)) (opS_lay o)) (fun hc4 => ?_) (fun hc4 => ?_))
    · skip
      cases hc4
    · skip
      clear hc4
      refine ws_nil ?_
      refine ws_cons (ws_if (TD.eq (td_cmp (ed_var 1 rfl) (ed_const KC.«PAIRING» (by rfl)) (c2_inStr (ys := opL4) (.tup _)) (by rfl)) (opS_notP o)) (fun hc5 => ?_) (fun hc5 => ?_))
      · skip
        cases hc5
      · skip
        clear hc5
        refine ws_nil ?_
        refine ws_cons (ws_ret (ED.eq (ED.eq (ed_lst (eo_lst (ad_cons (ed_var 1 rfl) (ad_cons (ed_callT (T := "str") (by rfl) B.«str» bb_str (ad_cons (ED.eq (d' := .int n) (ed_ix (ED.eq (d' := .tup [.str (opS o), .int n, y.e]) (ed_var 0 rfl) rfl) ed_int IX.t1) rfl) ad_nil) (bc_strI (szE_rz hsz).sm.log)) (ad_starL (ed_call G_part_words_e4 (hr.mono (by decide)) (by rfl) (ad_cons (ED.eq (d' := y.e) (ed_ix (ED.eq (d' := .tup [.str (opS o), .int n, y.e]) (ed_var 0 rfl) rfl) ed_int IX.t2) rfl) ad_nil) (by exact .mk L _ y hy hdy)) ad_nil))) (by rw [exW_siz, List.length_cons, List.length_cons] at hl76; simp only [List.length_append, List.length_cons, List.length_map, List.length_nil]; rw [sizeLine_eq]; omega))) (show _ = D.lst ((exW (Ex.siz o n y)).map .str) by rw [exW_siz]; simp; rfl)) ?_) (Or.inl rfl))
        rfl
abbrev s_part_words_e5 : Stmt := top 34
theorem sc_part_words_e5 : FnScope ["expression", "words"] ["expression"] (defScope s_part_words_e5) := ⟨rfl, rfl, rfl, by decide +kernel, rfl, by decide +kernel, by decide +kernel⟩
theorem ok_part_words_e5 {f : Addr} {fd : FuncData} (F : Fun K "part_words" "part_words" s_part_words_e5 f fd) (B : Bt mg) (KC : Kt K mg) (KL : Lt K mg) (WD : Zdt K w mg) (G_expression_words_e5 : Fn P w K mg base "expression_words" 9 R_expression_words_e5) (G_expression_words_e5 : Fn P w K mg base "expression_words" 9 R_expression_words_e5) :
    FnOk P w K mg base CX0 10 f fd ["expression"] (spR K R_part_words_e5) := by
  refine fn_ok (k := 9) F sc_part_words_e5 (fun ds d h => by cases h <;> rfl) fun ds d hR cdv A outer s H E hr => ?_
  have nd := sc_part_words_e5.nd
  have hu := hr.units
  rcases hR with ⟨L, d, x, hx, hd⟩
  walk_at "en"
  rcases x with n | ⟨o, l, r⟩ | ⟨o, n, y⟩
  · skip
    have hl76 := ex_len5 (show (Ex.lay n).dep ≤ 5 by omega)
    have hx9 := hx
    refine ws_cons (ws_set 1 nd (ed_call G_expression_words_e5 (hr.mono (by decide)) (by rfl) (ad_cons (ed_var 0 rfl) ad_nil) (by exact .mk L d (Ex.lay n) hx9 hd)) ?_)
    walk_at "env"
    refine ws_cons (ws_ret (ED.eq (ed_if (d := .lst ((ptW (Ex.lay n)).map .str)) (TD.eq (td_cmp (ED.eq (d' := .str "layer") (ed_ix (ED.eq (d' := .tup [.str "layer", .str n]) (ed_var 0 rfl) rfl) ed_int IX.t0) rfl) (ed_const KC.«PAIRING» (by rfl)) (c2_inStr (ys := opL4) (.tup _)) (by rfl)) lay_notP) (fun h => by cases h) (fun _ => (ED.eq (ed_var 1 rfl) (by rw [ptW_f rfl])))) ?_) (Or.inl rfl))
    rfl
  · skip
    have hl76 := ex_len5 (show (Ex.two o l r).dep ≤ 5 by omega)
    have hx9 := hx
    refine ws_cons (ws_set 1 nd (ed_call G_expression_words_e5 (hr.mono (by decide)) (by rfl) (ad_cons (ed_var 0 rfl) ad_nil) (by exact .mk L d (Ex.two o l r) hx9 hd)) ?_)
    walk_at "env"
    refine ws_cons (ws_ret (ED.eq (ed_if (d := .lst ((ptW (Ex.two o l r)).map .str)) (TD.eq (td_cmp (ED.eq (d' := .str (opP o)) (ed_ix (ED.eq (d' := .tup [.str (opP o), l.e, r.e]) (ed_var 0 rfl) rfl) ed_int IX.t0) rfl) (ed_const KC.«PAIRING» (by rfl)) (c2_inStr (ys := opL4) (.tup _)) (by rfl)) (opP_in o)) (fun _ => (ED.eq (ed_lst (eo_lst (ad_cons ed_str (ad_starL (ed_var 1 rfl) (ad_cons ed_str ad_nil))) (by simp only [List.length_append, List.length_cons, List.length_map, List.length_nil]; rw [sizeLine_eq]; omega))) (show _ = D.lst ((ptW (Ex.two o l r)).map .str) by rw [ptW_t rfl]; simp))) (fun h => by cases h)) ?_) (Or.inl rfl))
    rfl
  · skip
    have hl76 := ex_len5 (show (Ex.siz o n y).dep ≤ 5 by omega)
    have hx9 := hx
    refine ws_cons (ws_set 1 nd (ed_call G_expression_words_e5 (hr.mono (by decide)) (by rfl) (ad_cons (ed_var 0 rfl) ad_nil) (by exact .mk L d (Ex.siz o n y) hx9 hd)) ?_)
    walk_at "env"
    refine ws_cons (ws_ret (ED.eq (ed_if (d := .lst ((ptW (Ex.siz o n y)).map .str)) (TD.eq (td_cmp (ED.eq (d' := .str (opS o)) (ed_ix (ED.eq (d' := .tup [.str (opS o), .int n, y.e]) (ed_var 0 rfl) rfl) ed_int IX.t0) rfl) (ed_const KC.«PAIRING» (by rfl)) (c2_inStr (ys := opL4) (.tup _)) (by rfl)) (opS_notP o)) (fun h => by cases h) (fun _ => (ED.eq (ed_var 1 rfl) (by rw [ptW_f rfl])))) ?_) (Or.inl rfl))
    rfl
abbrev s_format_deck : Stmt := top 35
theorem sc_format_deck : FnScope ["deck", "lines", "name", "expression", "rule", "words", "word"] ["deck"] (defScope s_format_deck) := ⟨rfl, rfl, rfl, by decide +kernel, rfl, by decide +kernel, by decide +kernel⟩
theorem ok_format_deck {f : Addr} {fd : FuncData} (F : Fun K "format_deck" "format_deck" s_format_deck f fd) (B : Bt mg) (KC : Kt K mg) (KL : Lt K mg) (WD : Zdt K w mg) (G_expression_words_e5 : Fn P w K mg base "expression_words" 9 R_expression_words_e5) (G_expression_words_e5 : Fn P w K mg base "expression_words" 9 R_expression_words_e5) :
    FnOk P w K mg base CX0 11 f fd ["deck"] (spR K R_format_deck) := by
  refine fn_ok (k := 10) F sc_format_deck (fun ds d h => by cases h <;> rfl) fun ds d hR cdv A outer s H E hr => ?_
  have nd := sc_format_deck.nd
  have hu := hr.units
  rcases hR with ⟨F, Q, t⟩
  have hwl := dkW_len F Q
  have hfl6 := t.fl
  have hql6 := t.ql
  have l8 := lens
  unfold dkD
  walk_at "en"
  refine ws_cons (ws_setMap 1 [("name", 2), ("expression", 3)] (F) (Df.e) (fun f : Df => D.lst ((dfX f).map wxE)) rfl nd (blkOk_by (N := ["deck", "lines", "name", "expression", "rule", "words", "word"]) (sc := defScope s_format_deck) (by decide +kernel)) (id_tup (ed_fld 0 KL.«Deck» (ed_var 0 rfl))) (rfl) (fun f hxm => by obtain ⟨L9, hL9, hx9, hdp, hnb, hws⟩ := t.df hxm; exact ⟨_, by rfl, fun _ _ _ _ _ => ⟨(dg_tup rfl (dgs_cons (dg_name 2 nd) (dgs_cons (dg_name 3 nd) dgs_nil))), tds_nil, (ED.eq (ed_lst (eo_lst (ad_cons ed_str (ad_cons (ed_var 2 rfl) (ad_starL (ed_call G_expression_words_e5 (hr.mono (by decide)) (by rfl) (ad_cons (ed_var 3 rfl) ad_nil) (by exact .mk L9 12 f.2 hx9 hdp)) ad_nil))) (by have h9 := ex_len5 hdp; simp only [List.length_append, List.length_cons, List.length_map, List.length_nil]; rw [sizeLine_eq]; omega))) (show _ = D.lst ((dfX f).map wxE) by unfold dfX; simp [wxE]))⟩⟩) (by rw [sizeLine_eq]; omega) ?_)
  walk_at "env"
  refine ws_cons (ws_extendL 1 rfl (eo_map [("rule", 4)] (Q) (ruX) (fun r : RuX => D.lst ((ruX9 r).map wxE)) rfl nd (blkOk_by (N := ["deck", "lines", "name", "expression", "rule", "words", "word"]) (sc := defScope s_format_deck) (by decide +kernel)) (id_tup (ed_fld 1 KL.«Deck» (ed_var 0 rfl))) (rfl) (fun r hxm => ⟨_, by rfl, fun _ _ _ _ _ => ⟨(dg_name 4 nd), tds_nil, (ED.eq (ed_lst (eo_lst (ad_cons ed_str (ad_star (ED.eq (ed_var 4 rfl) (show _ = D.tup (rDs r.1 r.2.1 r.2.2) from rfl)) ad_nil)) (by have h9 := form_len (t.ok.s.fm r hxm); simp only [rDs, List.length_append, List.length_cons, List.length_map, List.length_nil]; rw [sizeLine_eq]; omega))) (show _ = D.lst ((ruX9 r).map wxE) by unfold ruX9 rDs; simp [wxE]; rfl))⟩⟩) (by rw [sizeLine_eq]; omega)) (by simp only [List.length_map, List.length_append]; rw [sizeLine_eq]; omega) ?_ (fun h => ps_expr (pe_bm PySem.F.plainAttrs_list PySem.F.slot_list_extend PySem.F.type_list_extend mt_extend (pv 1) h)))
  walk_at "env"
  refine ws_share 1 rfl ?_
  walk_at "env"
  refine ws_cons (ws_ret (ED.eq (ED.eq (ed_join (zs := (dkX F Q).map fun l => lnW (l.map wxT)) ed_str (.lst _) (ed_lst (eo_map2 [("words", 5)] (dkX F Q) (fun l => D.lst (l.map wxE)) (fun l => lnW (l.map wxT)) (D.str) rfl nd (blkOk_by (N := ["deck", "lines", "name", "expression", "rule", "words", "word"]) (sc := defScope s_format_deck) (by decide +kernel)) (id_list (ed_var 1 rfl)) (by unfold dkX; rw [List.map_append, List.map_map, List.map_map]; rfl) (fun l hxm => by have hm9 := hxm; have hw9 := dkX_ws t hxm; exact ⟨_, by rfl, fun _ _ _ _ _ => ⟨(dg_name 5 nd), tds_nil, (ED.eq (ed_join (zs := l.map wxT) ed_str (.lst _) (ED.eq (ed_lst (eo_map2 [("word", 6)] (l) (wxE) (wxT) (D.str) rfl nd (blkOk_by (N := ["deck", "lines", "name", "expression", "rule", "words", "word"]) (sc := retScope9 s_format_deck) (by decide +kernel)) (id_list (ed_var 5 rfl)) (rfl) (fun w hxm => ⟨_, by rfl, fun _ _ _ _ _ => ⟨(dg_name 6 nd), tds_nil, (by rcases w with y | y; exact (ed_callT (T := "str") (by rfl) B.«str» bb_str (ad_cons (ed_var 6 rfl) ad_nil) bc_strS); exact (ed_callT (T := "str") (by rfl) B.«str» bb_str (ad_cons (ed_var 6 rfl) ad_nil) (bc_strI (dkX_rz t hm9 hxm).sm.log)))⟩⟩) (by have h9 := hw9.few; rw [List.length_map] at h9; rw [sizeLine_eq]; omega))) (show _ = D.lst ((l.map wxT).map .str) by rfl)) (Nat.le_trans hw9.room (by omega))) (show _ = D.str (lnW (l.map wxT)) from rfl))⟩⟩) (by unfold dkX; rw [List.length_append, List.length_map, List.length_map, sizeLine_eq]; omega))) (by have h9 := txD_room t.ws (by omega); rw [← dkX_w, List.map_map] at h9; exact Nat.le_trans h9 (by omega))) (show _ = D.str (txD (dkW F Q)) by rw [txD_join])) ?_) (Or.inl rfl))
  rfl
abbrev s_Reader_init : Stmt := inClass (top 36) 0
theorem sc_Reader_init : FnScope ["self", "words", "layers", "line"] ["self", "words", "layers", "line"] (defScope s_Reader_init) := ⟨rfl, rfl, rfl, by decide +kernel, rfl, by decide +kernel, by decide +kernel⟩
theorem ok_Reader_init {f : Addr} {fd : FuncData} (F : Fun K "__init__" "Reader.__init__" s_Reader_init f fd) (B : Bt mg) (KC : Kt K mg) (KL : Lt K mg) (WD : Zdt K w mg)  :
    FnOk P w K mg base CX0 1 f fd ["self", "words", "layers", "line"] (spIL K "Reader" R_Reader_init) := by
  refine fn_okIL (k := 0) F sc_Reader_init (fun a ds Ψ h => by cases h; rfl) fun a0 ds Ψ hR cdv A outer s H E hr => ?_
  have nd := sc_Reader_init.nd
  have hu := hr.units
  rcases hR with ⟨W, L, ln⟩
  walk_at "en"
  refine ws_cons (ws_setFC 0 KL.«Reader» rfl (ed_callT (T := "tuple") (by rfl) B.«tuple» bb_tuple (ad_cons (ed_var 1 rfl) ad_nil) ((bc_tupSeq (.lst _)))) ?_)
  simp only [List.cons_append, List.nil_append]
  walk_at "env"
  refine ws_cons (ws_setFC 0 KL.«Reader» rfl (ed_callT (T := "tuple") (by rfl) B.«tuple» bb_tuple (ad_cons (ed_var 2 rfl) ad_nil) ((bc_tupSeq (.lst _)))) ?_)
  simp only [List.cons_append, List.nil_append]
  walk_at "env"
  refine ws_cons (ws_setFC 0 KL.«Reader» rfl (ed_var 3 rfl) ?_)
  simp only [List.cons_append, List.nil_append]
  walk_at "env"
  refine ws_cons (ws_setFC 0 KL.«Reader» rfl ed_int ?_)
  simp only [List.cons_append, List.nil_append]
  walk_at "env"
  refine ws_nil ?_
  refine ⟨_, _, _, rfl, rfl, ?_⟩
  exact rfl
abbrev s_Reader_read_all : Stmt := inClass (top 36) 1
theorem sc_Reader_read_all : FnScope ["self", "found", "_"] ["self"] (defScope s_Reader_read_all) := ⟨rfl, rfl, rfl, by decide +kernel, rfl, by decide +kernel, by decide +kernel⟩
theorem ok_Reader_read_all {f : Addr} {fd : FuncData} (F : Fun K "read_all" "Reader.read_all" s_Reader_read_all f fd) (B : Bt mg) (KC : Kt K mg) (KL : Lt K mg) (WD : Zdt K w mg) (G_Reader_chain_p6 : FnML P w K mg base "Reader" "_chain" 17 R_Reader_chain_p6) :
    FnOk P w K mg base CX0 18 f fd ["self"] (spL K R_Reader_read_all) := by
  refine fn_okL (k := 17) F sc_Reader_read_all (fun a cs ds Ψ h => by cases h; rfl) fun a0 cs0 ds Ψ hR cdv A outer s H E hr => ?_
  have nd := sc_Reader_read_all.nd
  have hu := hr.units
  rcases hR with ⟨W, L, ln, x, hW, hL, hx, hd⟩
  have hda := exA_dep x
  walk_at "en"
  refine ws_cons (ws_unpackP (ep_methW 0 G_Reader_chain_p6 (hr.mono (by decide)) rfl (List.mem_iff_getElem?.mpr ⟨0, rfl⟩) (ed_varX 0 rfl) (ad_cons (ed_const KC.«GREATEST_DEPTH» (by rfl)) ad_nil) (.mk a0 W L ln 0 x [] 12 (by rw [hW, List.append_nil]; rfl) stop_nil hL hx (by omega) (fun p hp => by have := (exL_ok x hx p hp).2; omega))) ?_)
  rintro _ _ ⟨_, ⟨rfl, rfl⟩, rfl⟩
  refine ⟨_, _, dg_tup rfl (dgs_cons (dg_name 1 nd) (dgs_cons (dg_name 2 nd) dgs_nil)), ?_⟩
  walk_at "env"
  refine ws_cons (ws_if (td_cmp (ed_fldC 0 3 KL.«Reader» rfl (List.mem_iff_getElem?.mpr ⟨0, rfl⟩) (ed_varX 0 rfl)) (ed_callB (id := "len") (by rfl) B.«len» bb_len (ad_cons (ed_fldC 0 0 KL.«Reader» rfl (List.mem_iff_getElem?.mpr ⟨0, rfl⟩) (ed_varX 0 rfl)) ad_nil) (by walk_at "bc")) (by walk_at "c2")) (fun hc1 => ?_) (fun hc1 => ?_))
  · skip
    exfalso; have h9 := of_decide_eq_true hc1; rw [List.length_map, hW] at h9; omega
  · skip
    clear hc1
    refine ws_nil ?_
    refine ws_cons (ws_retC 0 (ed_var 1 rfl) rfl (Or.inl ⟨_, _, rfl, ?_⟩))
    rfl
abbrev s_Reader_next_word : Stmt := inClass (top 36) 2
theorem sc_Reader_next_word : FnScope ["self"] ["self"] (defScope s_Reader_next_word) := ⟨rfl, rfl, rfl, by decide +kernel, rfl, by decide +kernel, by decide +kernel⟩
theorem ok_Reader_next_word {f : Addr} {fd : FuncData} (F : Fun K "_next_word" "Reader._next_word" s_Reader_next_word f fd) (B : Bt mg) (KC : Kt K mg) (KL : Lt K mg) (WD : Zdt K w mg)  :
    FnOk P w K mg base CX0 1 f fd ["self"] (spR K R_Reader_next_word) := by
  refine fn_ok (k := 0) F sc_Reader_next_word (fun ds d h => by cases h <;> rfl) fun ds d hR cdv A outer s H E hr => ?_
  have nd := sc_Reader_next_word.nd
  have hu := hr.units
  rcases hR with ⟨W, L, ln, i⟩
  unfold rdO
  walk_at "en"
  refine ws_cons (ws_ret (ED.eq (ed_if (d := .str (wAtI W i)) (td_cmp (ed_fld 3 KL.«Reader» (ed_var 0 rfl)) (ed_callB (id := "len") (by rfl) B.«len» bb_len (ad_cons (ed_fld 0 KL.«Reader» (ed_var 0 rfl)) ad_nil) (by walk_at "bc")) (by walk_at "c2") (by rfl)) (fun h => (ed_ix (ed_fld 0 KL.«Reader» (ed_var 0 rfl)) (ed_fld 3 KL.«Reader» (ed_var 0 rfl)) (.t (at_wA (by have h9 := of_decide_eq_true h; rw [List.length_map] at h9; omega))))) (fun h => (ED.eq ed_str (show _ = D.str (wAtI W i) by have h9 := of_decide_eq_false h; rw [List.length_map] at h9; rw [wAt_nil (List.drop_eq_nil_of_le (by omega))])))) ?_) (Or.inl rfl))
  rfl
abbrev s_Reader_read_word : Stmt := inClass (top 36) 3
theorem sc_Reader_read_word : FnScope ["self", "word"] ["self"] (defScope s_Reader_read_word) := ⟨rfl, rfl, rfl, by decide +kernel, rfl, by decide +kernel, by decide +kernel⟩
theorem ok_Reader_read_word {f : Addr} {fd : FuncData} (F : Fun K "_read_word" "Reader._read_word" s_Reader_read_word f fd) (B : Bt mg) (KC : Kt K mg) (KL : Lt K mg) (WD : Zdt K w mg) (G_Reader_next_word : FnM P w K mg base "Reader" "_next_word" 1 R_Reader_next_word) :
    FnOk P w K mg base CX0 2 f fd ["self"] (spL K R_Reader_read_word) := by
  refine fn_okL (k := 1) F sc_Reader_read_word (fun a cs ds Ψ h => by cases h; rfl) fun a0 cs0 ds Ψ hR cdv A outer s H E hr => ?_
  have nd := sc_Reader_read_word.nd
  have hu := hr.units
  rcases hR with ⟨W, L, ln, i⟩
  walk_at "en"
  refine ws_cons (ws_set 1 nd (ed_show 0 (rdO W L ln i) rfl (fun _ _ v h r => rd_show v h r) (ed_meth0 G_Reader_next_word (hr.mono (by decide)) (ed_var 0 rfl) (by exact .mk W L ln i))) ?_)
  walk_at "env"
  unfold rdCs
  refine ws_cons (ws_augF 0 3 KL.«Reader» rfl rfl ed_int ?_)
  walk_at "env"
  refine ws_cons (ws_retC 0 (ed_var 1 rfl) rfl (Or.inl ⟨_, _, rfl, ?_⟩))
  exact ⟨rfl, rfl⟩
abbrev s_Reader_part_p1 : Stmt := inClass (top 36) 5
theorem sc_Reader_part_p1 : FnScope ["self", "room", "word", "n", "inner", "depth"] ["self", "room"] (defScope s_Reader_part_p1) := ⟨rfl, rfl, rfl, by decide +kernel, rfl, by decide +kernel, by decide +kernel⟩
theorem ok_Reader_part_p1 {f : Addr} {fd : FuncData} (F : Fun K "_part" "Reader._part" s_Reader_part_p1 f fd) (B : Bt mg) (KC : Kt K mg) (KL : Lt K mg) (WD : Zdt K w mg) (G_Reader_read_word : FnML P w K mg base "Reader" "_read_word" 2 R_Reader_read_word) :
    FnOk P w K mg base CX0 4 f fd ["self", "room"] (spL K R_Reader_part_p1) := by
  refine fn_okL (k := 3) F sc_Reader_part_p1 (fun a cs ds Ψ h => by cases h; rfl) fun a0 cs0 ds Ψ hR cdv A outer s H E hr => ?_
  have nd := sc_Reader_part_p1.nd
  have hu := hr.units
  rcases hR with ⟨W, L, ln, i, x, S, room, hW, hL, hx, hd⟩
  have hrm := okE_room hx
  walk_at "en"
  rcases x with n | ⟨o, l, r⟩ | ⟨o, n, y⟩
  rotate_left
  · exfalso; have := ex_pos l; unfold Ex.dep at hd; omega
  · exfalso; have := ex_pos y; unfold Ex.dep at hd; omega
  · skip
    have hw := wAt_hd (w := n) (r := S) (by rw [hW, ptW_f rfl]; rfl)
    obtain ⟨l1, l2, l3⟩ := lay_lem hL hx
    refine ws_cons (ws_setP 2 nd (ep_meth0W 0 G_Reader_read_word (hr.mono (by decide)) rfl (List.mem_iff_getElem?.mpr ⟨0, rfl⟩) (ed_varX 0 rfl) (.mk a0 W L ln i)) ?_)
    rintro _ _ ⟨_, ⟨rfl, rfl⟩, rfl⟩
    walk_at "env"
    rw [hw.1]
    refine ws_cons (ws_if (td_cmp (ed_var 1 rfl) ed_int (by walk_at "c2")) (fun hc1 => ?_) (fun hc1 => ?_))
    · skip
      exfalso; have h9 := of_decide_eq_true hc1; omega
    · skip
      clear hc1
      refine ws_nil ?_
      refine ws_cons (ws_if (TD.eq (td_cmp (ed_var 2 rfl) ed_str c2_eqS (by rfl)) l1) (fun hc2 => ?_) (fun hc2 => ?_))
      · skip
        cases hc2
      · skip
        clear hc2
        refine ws_nil ?_
        refine ws_cons (ws_if (TD.eq (td_cmp (ed_var 2 rfl) (ed_const KC.«SIZING» (by rfl)) (c2_inStr (ys := opL3) (.tup _)) (by rfl)) l2) (fun hc3 => ?_) (fun hc3 => ?_))
        · skip
          cases hc3
        · skip
          clear hc3
          refine ws_nil ?_
          refine ws_cons (ws_if (TD.eq (td_cmp (ed_var 2 rfl) (ed_fldC 0 1 KL.«Reader» rfl (List.mem_iff_getElem?.mpr ⟨0, rfl⟩) (ed_varX 0 rfl)) (c2_notInStr (ys := L) (.tup _)) (by rfl)) (show (!decide (n ∈ L)) = false by rw [l3]; rfl)) (fun hc4 => ?_) (fun hc4 => ?_))
          · skip
            cases hc4
          · skip
            clear hc4
            refine ws_nil ?_
            refine ws_cons (ws_retC 0 (ed_tup (ad_cons (ed_tup (ad_cons ed_str (ad_cons (ed_var 2 rfl) ad_nil))) (ad_cons ed_int ad_nil))) rfl (Or.inl ⟨_, _, rfl, ?_⟩))
            exact ⟨rfl, rfl⟩
abbrev s_Reader_chain_p2 : Stmt := inClass (top 36) 4
theorem sc_Reader_chain_p2 : FnScope ["self", "room", "found", "depth", "operation", "right", "right_depth"] ["self", "room"] (defScope s_Reader_chain_p2) := ⟨rfl, rfl, rfl, by decide +kernel, rfl, by decide +kernel, by decide +kernel⟩
theorem ok_Reader_chain_p2 {f : Addr} {fd : FuncData} (F : Fun K "_chain" "Reader._chain" s_Reader_chain_p2 f fd) (B : Bt mg) (KC : Kt K mg) (KL : Lt K mg) (WD : Zdt K w mg) (G_Reader_next_word : FnM P w K mg base "Reader" "_next_word" 1 R_Reader_next_word) (G_Reader_part_p1 : FnML P w K mg base "Reader" "_part" 4 R_Reader_part_p1) (G_Reader_read_word : FnML P w K mg base "Reader" "_read_word" 2 R_Reader_read_word) :
    FnOk P w K mg base CX0 5 f fd ["self", "room"] (spL K R_Reader_chain_p2) := by
  refine fn_okL (k := 4) F sc_Reader_chain_p2 (fun a cs ds Ψ h => by cases h; rfl) fun a0 cs0 ds Ψ hR cdv A outer s H E hr => ?_
  have nd := sc_Reader_chain_p2.nd
  have hu := hr.units
  rcases hR with ⟨W, L, ln, i, x, S, room, hW, st, hL, hx, hA, hP⟩
  have hrm := okE_room hx
  obtain ⟨w0, r0, hex, hhd⟩ := ex_head hL hx
  have hfw := wAt_hd (W := W) (i := i) (w := w0) (r := r0 ++ ((exL x).flatMap opW ++ S)) (by rw [hW, sp_words x, hex]; simp)
  have hdr := okE_dep hx
  walk_at "en"
  refine ws_cons (ws_if (td_show 0 (rdO W L ln i) rfl (fun _ _ v h r => rd_show v h r) (td_cmp (ed_meth0 G_Reader_next_word (hr.mono (by decide)) (ed_var 0 rfl) (by first | exact .mk W L ln i | exact .mk W L ln (i + exP x gw0))) ed_str c2_eqS (by rfl))) (fun hc1 => ?_) (fun hc1 => ?_))
  · skip
    exfalso; rw [hfw.1, hhd] at hc1; cases hc1
  · skip
    clear hc1
    refine ws_nil ?_
    refine ws_cons (ws_unpackP (ep_methW 0 G_Reader_part_p1 (hr.mono (by decide)) rfl (List.mem_iff_getElem?.mpr ⟨0, rfl⟩) (ed_varX 0 rfl) (ad_cons (ed_var 1 rfl) ad_nil) (.mk a0 W L ln i (exA x) ((exL x).flatMap opW ++ S) room (by rw [hW, sp_words x, ptW_f (exA_not x), List.append_assoc]) hL (exA_ok x hx) hA)) ?_)
    rintro _ _ ⟨_, ⟨rfl, rfl⟩, rfl⟩
    refine ⟨_, _, dg_tup rfl (dgs_cons (dg_name 2 nd) (dgs_cons (dg_name 3 nd) dgs_nil)), ?_⟩
    walk_at "env"
    rw [ptW_f (exA_not x), ← exP_zero x, ← exF_zero x]
    refine ws_cons (ws_whileU (γ := Nat) (U := Sl × Sl × Sl) (fun g u => [(0, .ox (rdCs a0 W L ln (i + exP x g)) (.ad a0)), (2, .sh (exF x g).e), (3, .sh (.int ((exF x g).dep : Int))), (4, u.1), (5, u.2.1), (6, u.2.2)]) (fun r => (r.getD 4 .no, r.getD 5 .no, r.getD 6 .no)) (fun g => g ≤ (exL x).length) (fun g => (exL x).length - g) (0) (rfl) (Nat.zero_le _) ?_)
    intro gw0 uw0 hW0
    walk_at "env"
    refine ⟨_, (td_show 0 (rdO W L ln (i + exP x gw0)) rfl (fun _ _ v h r => rd_show v h r) (td_cmp (ed_meth0 G_Reader_next_word (hr.mono (by decide)) (ed_var 0 rfl) (by first | exact .mk W L ln i | exact .mk W L ln (i + exP x gw0))) (ed_const KC.«PAIRING» (by rfl)) (c2_inStr (ys := opL4) (.tup _)) (by rfl))), fun hw0 => ?_, fun hw0 => ?_⟩
    · skip
      have hlt9 : gw0 < (exL x).length := by
        rcases Nat.lt_or_eq_of_le hW0 with q | q
        · exact q
        · exfalso; rw [q, stop_at (sp_end hW) st] at hw0; cases hw0
      have hn9 := sp_next hW hlt9
      have hp9 : (exL x)[gw0]? = some (exL x)[gw0] := List.getElem?_eq_getElem hlt9
      obtain ⟨p9, hp8⟩ : ∃ p, p = (exL x)[gw0] := ⟨_, rfl⟩
      rw [← hp8] at hn9 hp9
      have hm9 := List.mem_of_getElem? hp9
      have hw9 := wAt_hd hn9
      refine ws_cons (ws_setP 4 nd (ep_meth0W 0 G_Reader_read_word (hr.mono (by decide)) rfl (List.mem_iff_getElem?.mpr ⟨0, rfl⟩) (ed_varX 0 rfl) (.mk a0 W L ln (i + exP x gw0))) ?_)
      rintro _ _ ⟨_, ⟨rfl, rfl⟩, rfl⟩
      walk_at "env"
      rw [hw9.1]
      refine ws_cons (ws_unpackP (ep_methW 0 G_Reader_part_p1 (hr.mono (by decide)) rfl (List.mem_iff_getElem?.mpr ⟨0, rfl⟩) (ed_varX 0 rfl) (ad_cons (ED.eq (ed_bin (ed_var 1 rfl) ed_int (by walk_at "b2")) (show _ = D.int ((room - 1 : Nat) : Int) from congrArg D.int (by omega))) ad_nil) (.mk a0 W L ln (i + exP x gw0 + 1) p9.2 (((exL x).drop (gw0 + 1)).flatMap opW ++ S) (room - 1) hw9.2.2 hL (exL_ok x hx p9 hm9).1 (hP p9 hm9))) ?_)
      rintro _ _ ⟨_, ⟨rfl, rfl⟩, rfl⟩
      refine ⟨_, _, dg_tup rfl (dgs_cons (dg_name 5 nd) (dgs_cons (dg_name 6 nd) dgs_nil)), ?_⟩
      walk_at "env"
      refine ws_cons (ws_set 2 nd (ed_tup (ad_cons (ed_var 4 rfl) (ad_cons (ed_var 2 rfl) (ad_cons (ed_var 5 rfl) ad_nil)))) ?_)
      walk_at "env"
      refine ws_cons (ws_set 3 nd (ed_bin ed_int (ed_callB (id := "max") (by rfl) B.«max» bb_max (ad_cons (ed_var 3 rfl) (ad_cons (ed_var 6 rfl) ad_nil)) (bc_max2 rfl)) (by walk_at "b2")) ?_)
      walk_at "env"
      refine ws_cons (ws_if (td_cmp (ed_var 3 rfl) (ed_var 1 rfl) (by walk_at "c2")) (fun hc3 => ?_) (fun hc3 => ?_))
      · skip
        exfalso; have h9 := of_decide_eq_true hc3; have h8 : max (exF x gw0).dep p9.2.dep + 1 ≤ x.dep := by have h7 := exF_dep x (gw0 + 1); rw [exF_succ hp9] at h7; exact h7
        omega
      · skip
        clear hc3
        refine ws_nil ?_
        refine ws_nil ?_
        refine ⟨gw0 + 1, ?_, by omega, by omega⟩
        rw [exF_succ hp9, exP_succ hp9, show i + (exP x gw0 + 1 + (ptW p9.2).length) = i + exP x gw0 + 1 + (ptW p9.2).length by omega, show ((Ex.two p9.1 (exF x gw0) p9.2).dep : Int) = 1 + max ((exF x gw0).dep : Int) (p9.2.dep : Int) by show ((max (exF x gw0).dep p9.2.dep + 1 : Nat) : Int) = _; omega]
        rfl
    · skip
      have hend9 : gw0 = (exL x).length := by
        rcases Nat.lt_or_eq_of_le hW0 with q | q
        · exfalso; rw [(wAt_hd (sp_next hW q)).1, opP_in] at hw0; cases hw0
        · exact q
      subst hend9
      refine ws_cons (ws_retC 0 (ed_tup (ad_cons (ed_var 2 rfl) (ad_cons (ed_var 3 rfl) ad_nil))) rfl (Or.inl ⟨_, _, rfl, ?_⟩))
      rw [exP_full, exF_full]
      exact ⟨rfl, rfl⟩
abbrev s_Reader_in_parentheses_p2 : Stmt := inClass (top 36) 6
theorem sc_Reader_in_parentheses_p2 : FnScope ["self", "room", "found", "depth"] ["self", "room"] (defScope s_Reader_in_parentheses_p2) := ⟨rfl, rfl, rfl, by decide +kernel, rfl, by decide +kernel, by decide +kernel⟩
theorem ok_Reader_in_parentheses_p2 {f : Addr} {fd : FuncData} (F : Fun K "_in_parentheses" "Reader._in_parentheses" s_Reader_in_parentheses_p2 f fd) (B : Bt mg) (KC : Kt K mg) (KL : Lt K mg) (WD : Zdt K w mg) (G_Reader_chain_p2 : FnML P w K mg base "Reader" "_chain" 5 R_Reader_chain_p2) (G_Reader_read_word : FnML P w K mg base "Reader" "_read_word" 2 R_Reader_read_word) :
    FnOk P w K mg base CX0 6 f fd ["self", "room"] (spL K R_Reader_in_parentheses_p2) := by
  refine fn_okL (k := 5) F sc_Reader_in_parentheses_p2 (fun a cs ds Ψ h => by cases h; rfl) fun a0 cs0 ds Ψ hR cdv A outer s H E hr => ?_
  have nd := sc_Reader_in_parentheses_p2.nd
  have hu := hr.units
  rcases hR with ⟨W, L, ln, i, x, S, room, hT, hW, hL, hx, hd⟩
  have hpos := exL_pos hT
  have hda := exA_dep x
  have hw := wAt_hd (drop_app hW)
  walk_at "en"
  refine ws_cons (ws_unpackP (ep_methW 0 G_Reader_chain_p2 (hr.mono (by decide)) rfl (List.mem_iff_getElem?.mpr ⟨0, rfl⟩) (ed_varX 0 rfl) (ad_cons (ed_var 1 rfl) ad_nil) (.mk a0 W L ln i x ((")" : Str) :: S) room hW (stop_par S) hL hx (by omega) (fun p hp => by have := (exL_ok x hx p hp).2; omega))) ?_)
  rintro _ _ ⟨_, ⟨rfl, rfl⟩, rfl⟩
  refine ⟨_, _, dg_tup rfl (dgs_cons (dg_name 2 nd) (dgs_cons (dg_name 3 nd) dgs_nil)), ?_⟩
  walk_at "env"
  refine ws_cons (ws_ifP (tp_or2 (TD.eq (td_cmp (ed_ix (ED.eq (ed_var 2 rfl) (ex_hd x)) ed_int IX.t0) (ed_const KC.«PAIRING» (by rfl)) (c2_notInStr (ys := opL4) (.tup _)) (by rfl)) (by rw [ex_inP, hT]; rfl)) (tp_cmpL (d1 := .str (wAtI W (i + (exW x).length))) (ρ2 := [Sl.ox (rdCs a0 W L ln (i + (exW x).length + 1)) (.ad a0), .sh (.int (room : Int)), .sh x.e, .sh (.int (x.dep : Int))]) (ep_meth0W 0 G_Reader_read_word (hr.mono (by decide)) rfl (List.mem_iff_getElem?.mpr ⟨0, rfl⟩) (ed_varX 0 rfl) (.mk a0 W L ln (i + (exW x).length))) (by rintro _ _ ⟨_, ⟨rfl, rfl⟩, rfl⟩; exact ⟨rfl, rfl⟩) ed_str c2_neS (by rfl))) ?_ ?_)
  · rintro _ ⟨h9, rfl⟩
    exfalso; rw [hw.1] at h9; revert h9; decide +kernel
  rintro _ ⟨_, rfl⟩
  refine ws_nil ?_
  refine ws_cons (ws_retC 0 (ed_tup (ad_cons (ed_var 2 rfl) (ad_cons (ed_var 3 rfl) ad_nil))) rfl (Or.inl ⟨_, _, rfl, ?_⟩))
  exact ⟨rfl, rfl⟩
abbrev s_Reader_part_p2 : Stmt := inClass (top 36) 5
theorem sc_Reader_part_p2 : FnScope ["self", "room", "word", "n", "inner", "depth"] ["self", "room"] (defScope s_Reader_part_p2) := ⟨rfl, rfl, rfl, by decide +kernel, rfl, by decide +kernel, by decide +kernel⟩
theorem ok_Reader_part_p2 {f : Addr} {fd : FuncData} (F : Fun K "_part" "Reader._part" s_Reader_part_p2 f fd) (B : Bt mg) (KC : Kt K mg) (KL : Lt K mg) (WD : Zdt K w mg) (G_Reader_in_parentheses_p2 : FnML P w K mg base "Reader" "_in_parentheses" 6 R_Reader_in_parentheses_p2) (G_Reader_part_p1 : FnML P w K mg base "Reader" "_part" 4 R_Reader_part_p1) (G_Reader_read_word : FnML P w K mg base "Reader" "_read_word" 2 R_Reader_read_word) (G_Reader_size : FnML P w K mg base "Reader" "_size" 3 R_Reader_size) :
    FnOk P w K mg base CX0 7 f fd ["self", "room"] (spL K R_Reader_part_p2) := by
  refine fn_okL (k := 6) F sc_Reader_part_p2 (fun a cs ds Ψ h => by cases h; rfl) fun a0 cs0 ds Ψ hR cdv A outer s H E hr => ?_
  have nd := sc_Reader_part_p2.nd
  have hu := hr.units
  rcases hR with ⟨W, L, ln, i, x, S, room, hW, hL, hx, hd⟩
  have hrm := okE_room hx
  walk_at "en"
  rcases x with n | ⟨o, l, r⟩ | ⟨o, n, y⟩
  · skip
    have hw := wAt_hd (w := n) (r := S) (by rw [hW, ptW_f rfl]; rfl)
    obtain ⟨l1, l2, l3⟩ := lay_lem hL hx
    refine ws_cons (ws_setP 2 nd (ep_meth0W 0 G_Reader_read_word (hr.mono (by decide)) rfl (List.mem_iff_getElem?.mpr ⟨0, rfl⟩) (ed_varX 0 rfl) (.mk a0 W L ln i)) ?_)
    rintro _ _ ⟨_, ⟨rfl, rfl⟩, rfl⟩
    walk_at "env"
    rw [hw.1]
    refine ws_cons (ws_if (td_cmp (ed_var 1 rfl) ed_int (by walk_at "c2")) (fun hc1 => ?_) (fun hc1 => ?_))
    · skip
      exfalso; have h9 := of_decide_eq_true hc1; omega
    · skip
      clear hc1
      refine ws_nil ?_
      refine ws_cons (ws_if (TD.eq (td_cmp (ed_var 2 rfl) ed_str c2_eqS (by rfl)) l1) (fun hc2 => ?_) (fun hc2 => ?_))
      · skip
        cases hc2
      · skip
        clear hc2
        refine ws_nil ?_
        refine ws_cons (ws_if (TD.eq (td_cmp (ed_var 2 rfl) (ed_const KC.«SIZING» (by rfl)) (c2_inStr (ys := opL3) (.tup _)) (by rfl)) l2) (fun hc3 => ?_) (fun hc3 => ?_))
        · skip
          cases hc3
        · skip
          clear hc3
          refine ws_nil ?_
          refine ws_cons (ws_if (TD.eq (td_cmp (ed_var 2 rfl) (ed_fldC 0 1 KL.«Reader» rfl (List.mem_iff_getElem?.mpr ⟨0, rfl⟩) (ed_varX 0 rfl)) (c2_notInStr (ys := L) (.tup _)) (by rfl)) (show (!decide (n ∈ L)) = false by rw [l3]; rfl)) (fun hc4 => ?_) (fun hc4 => ?_))
          · skip
            cases hc4
          · skip
            clear hc4
            refine ws_nil ?_
            refine ws_cons (ws_retC 0 (ed_tup (ad_cons (ed_tup (ad_cons ed_str (ad_cons (ed_var 2 rfl) ad_nil))) (ad_cons ed_int ad_nil))) rfl (Or.inl ⟨_, _, rfl, ?_⟩))
            exact ⟨rfl, rfl⟩
  · skip
    have hw := wAt_hd (w := "(") (r := exW (Ex.two o l r) ++ (")" : Str) :: S) (by rw [hW, ptW_t rfl]; simp)
    refine ws_cons (ws_setP 2 nd (ep_meth0W 0 G_Reader_read_word (hr.mono (by decide)) rfl (List.mem_iff_getElem?.mpr ⟨0, rfl⟩) (ed_varX 0 rfl) (.mk a0 W L ln i)) ?_)
    rintro _ _ ⟨_, ⟨rfl, rfl⟩, rfl⟩
    walk_at "env"
    rw [hw.1]
    refine ws_cons (ws_if (td_cmp (ed_var 1 rfl) ed_int (by walk_at "c2")) (fun hc5 => ?_) (fun hc5 => ?_))
    · skip
      exfalso; have h9 := of_decide_eq_true hc5; omega
    · skip
      clear hc5
      refine ws_nil ?_
      refine ws_cons (ws_if (TD.eq (td_cmp (ed_var 2 rfl) ed_str c2_eqS (by rfl)) (decide_eq_true rfl)) (fun hc6 => ?_) (fun hc6 => ?_))
      · skip
        clear hc6
        refine ws_cons (ws_retCP 0 (ep_methW 0 G_Reader_in_parentheses_p2 (hr.mono (by decide)) rfl (List.mem_iff_getElem?.mpr ⟨0, rfl⟩) (ed_varX 0 rfl) (ad_cons (ed_var 1 rfl) ad_nil) (.mk a0 W L ln (i + 1) (Ex.two o l r) S room rfl hw.2.2 hL hx hd)) ?_)
        rintro _ _ ⟨_, ⟨rfl, rfl⟩, rfl⟩
        exact ⟨_, _, rfl, Or.inl ⟨_, _, rfl, congrArg (rdCs a0 W L ln) (by rw [ptW_t (x := Ex.two o l r) rfl, List.length_cons, List.length_append, List.length_cons, List.length_nil]; omega), rfl⟩⟩
      · skip
        cases hc6
  · skip
    obtain ⟨hsz, hy⟩ := siz_lem hx
    have hdy : y.dep ≤ 1 := by unfold Ex.dep at hd; omega
    have hw := wAt_hd (w := opS o) (r := stI n :: (ptW y ++ S)) (by rw [hW, ptW_f rfl, exW_siz]; rfl)
    have hw2 := wAt_hd hw.2.2
    refine ws_cons (ws_setP 2 nd (ep_meth0W 0 G_Reader_read_word (hr.mono (by decide)) rfl (List.mem_iff_getElem?.mpr ⟨0, rfl⟩) (ed_varX 0 rfl) (.mk a0 W L ln i)) ?_)
    rintro _ _ ⟨_, ⟨rfl, rfl⟩, rfl⟩
    walk_at "env"
    rw [hw.1]
    refine ws_cons (ws_if (td_cmp (ed_var 1 rfl) ed_int (by walk_at "c2")) (fun hc7 => ?_) (fun hc7 => ?_))
    · skip
      exfalso; have h9 := of_decide_eq_true hc7; omega
    · skip
      clear hc7
      refine ws_nil ?_
      refine ws_cons (ws_if (TD.eq (td_cmp (ed_var 2 rfl) ed_str c2_eqS (by rfl)) (kw_par.1 o)) (fun hc8 => ?_) (fun hc8 => ?_))
      · skip
        cases hc8
      · skip
        clear hc8
        refine ws_nil ?_
        refine ws_cons (ws_if (TD.eq (td_cmp (ed_var 2 rfl) (ed_const KC.«SIZING» (by rfl)) (c2_inStr (ys := opL3) (.tup _)) (by rfl)) (opS_in o)) (fun hc9 => ?_) (fun hc9 => ?_))
        · skip
          clear hc9
          refine ws_cons (ws_setP 3 nd (ep_methW 0 G_Reader_size (hr.mono (by decide)) rfl (List.mem_iff_getElem?.mpr ⟨0, rfl⟩) (ed_varX 0 rfl) (ad_cons (ed_var 2 rfl) ad_nil) (.mk a0 W L ln (i + 1) o n hw2.1 hsz)) ?_)
          rintro _ _ ⟨_, ⟨rfl, rfl⟩, rfl⟩
          walk_at "env"
          refine ws_cons (ws_unpackP (ep_methW 0 G_Reader_part_p1 (hr.mono (by decide)) rfl (List.mem_iff_getElem?.mpr ⟨0, rfl⟩) (ed_varX 0 rfl) (ad_cons (ED.eq (ed_bin (ed_var 1 rfl) ed_int (by walk_at "b2")) (show _ = D.int ((room - 1 : Nat) : Int) from congrArg D.int (by omega))) ad_nil) (.mk a0 W L ln (i + 1 + 1) y S (room - 1) hw2.2.2 hL hy hdy)) ?_)
          rintro _ _ ⟨_, ⟨rfl, rfl⟩, rfl⟩
          refine ⟨_, _, dg_tup rfl (dgs_cons (dg_name 4 nd) (dgs_cons (dg_name 5 nd) dgs_nil)), ?_⟩
          walk_at "env"
          refine ws_cons (ws_retC 0 (ed_tup (ad_cons (ed_tup (ad_cons (ed_var 2 rfl) (ad_cons (ed_var 3 rfl) (ad_cons (ed_var 4 rfl) ad_nil)))) (ad_cons (ed_bin (ed_var 5 rfl) ed_int (by walk_at "b2")) ad_nil))) rfl (Or.inl ⟨_, _, rfl, ?_⟩))
          exact ⟨congrArg (rdCs a0 W L ln) (by rw [ptW_f (x := Ex.siz o n y) rfl, exW_siz, List.length_cons, List.length_cons]; omega), congrArg (fun z : Int => D.tup [(Ex.siz o n y).e, .int z]) (show ((y.dep : Int) + 1) = ((y.dep + 1 : Nat) : Int) by omega)⟩
        · skip
          cases hc9
abbrev s_Reader_chain_p3 : Stmt := inClass (top 36) 4
theorem sc_Reader_chain_p3 : FnScope ["self", "room", "found", "depth", "operation", "right", "right_depth"] ["self", "room"] (defScope s_Reader_chain_p3) := ⟨rfl, rfl, rfl, by decide +kernel, rfl, by decide +kernel, by decide +kernel⟩
theorem ok_Reader_chain_p3 {f : Addr} {fd : FuncData} (F : Fun K "_chain" "Reader._chain" s_Reader_chain_p3 f fd) (B : Bt mg) (KC : Kt K mg) (KL : Lt K mg) (WD : Zdt K w mg) (G_Reader_next_word : FnM P w K mg base "Reader" "_next_word" 1 R_Reader_next_word) (G_Reader_part_p2 : FnML P w K mg base "Reader" "_part" 7 R_Reader_part_p2) (G_Reader_read_word : FnML P w K mg base "Reader" "_read_word" 2 R_Reader_read_word) :
    FnOk P w K mg base CX0 8 f fd ["self", "room"] (spL K R_Reader_chain_p3) := by
  refine fn_okL (k := 7) F sc_Reader_chain_p3 (fun a cs ds Ψ h => by cases h; rfl) fun a0 cs0 ds Ψ hR cdv A outer s H E hr => ?_
  have nd := sc_Reader_chain_p3.nd
  have hu := hr.units
  rcases hR with ⟨W, L, ln, i, x, S, room, hW, st, hL, hx, hA, hP⟩
  have hrm := okE_room hx
  obtain ⟨w0, r0, hex, hhd⟩ := ex_head hL hx
  have hfw := wAt_hd (W := W) (i := i) (w := w0) (r := r0 ++ ((exL x).flatMap opW ++ S)) (by rw [hW, sp_words x, hex]; simp)
  have hdr := okE_dep hx
  walk_at "en"
  refine ws_cons (ws_if (td_show 0 (rdO W L ln i) rfl (fun _ _ v h r => rd_show v h r) (td_cmp (ed_meth0 G_Reader_next_word (hr.mono (by decide)) (ed_var 0 rfl) (by first | exact .mk W L ln i | exact .mk W L ln (i + exP x gw0))) ed_str c2_eqS (by rfl))) (fun hc1 => ?_) (fun hc1 => ?_))
  · skip
    exfalso; rw [hfw.1, hhd] at hc1; cases hc1
  · skip
    clear hc1
    refine ws_nil ?_
    refine ws_cons (ws_unpackP (ep_methW 0 G_Reader_part_p2 (hr.mono (by decide)) rfl (List.mem_iff_getElem?.mpr ⟨0, rfl⟩) (ed_varX 0 rfl) (ad_cons (ed_var 1 rfl) ad_nil) (.mk a0 W L ln i (exA x) ((exL x).flatMap opW ++ S) room (by rw [hW, sp_words x, ptW_f (exA_not x), List.append_assoc]) hL (exA_ok x hx) hA)) ?_)
    rintro _ _ ⟨_, ⟨rfl, rfl⟩, rfl⟩
    refine ⟨_, _, dg_tup rfl (dgs_cons (dg_name 2 nd) (dgs_cons (dg_name 3 nd) dgs_nil)), ?_⟩
    walk_at "env"
    rw [ptW_f (exA_not x), ← exP_zero x, ← exF_zero x]
    refine ws_cons (ws_whileU (γ := Nat) (U := Sl × Sl × Sl) (fun g u => [(0, .ox (rdCs a0 W L ln (i + exP x g)) (.ad a0)), (2, .sh (exF x g).e), (3, .sh (.int ((exF x g).dep : Int))), (4, u.1), (5, u.2.1), (6, u.2.2)]) (fun r => (r.getD 4 .no, r.getD 5 .no, r.getD 6 .no)) (fun g => g ≤ (exL x).length) (fun g => (exL x).length - g) (0) (rfl) (Nat.zero_le _) ?_)
    intro gw0 uw0 hW0
    walk_at "env"
    refine ⟨_, (td_show 0 (rdO W L ln (i + exP x gw0)) rfl (fun _ _ v h r => rd_show v h r) (td_cmp (ed_meth0 G_Reader_next_word (hr.mono (by decide)) (ed_var 0 rfl) (by first | exact .mk W L ln i | exact .mk W L ln (i + exP x gw0))) (ed_const KC.«PAIRING» (by rfl)) (c2_inStr (ys := opL4) (.tup _)) (by rfl))), fun hw0 => ?_, fun hw0 => ?_⟩
    · skip
      have hlt9 : gw0 < (exL x).length := by
        rcases Nat.lt_or_eq_of_le hW0 with q | q
        · exact q
        · exfalso; rw [q, stop_at (sp_end hW) st] at hw0; cases hw0
      have hn9 := sp_next hW hlt9
      have hp9 : (exL x)[gw0]? = some (exL x)[gw0] := List.getElem?_eq_getElem hlt9
      obtain ⟨p9, hp8⟩ : ∃ p, p = (exL x)[gw0] := ⟨_, rfl⟩
      rw [← hp8] at hn9 hp9
      have hm9 := List.mem_of_getElem? hp9
      have hw9 := wAt_hd hn9
      refine ws_cons (ws_setP 4 nd (ep_meth0W 0 G_Reader_read_word (hr.mono (by decide)) rfl (List.mem_iff_getElem?.mpr ⟨0, rfl⟩) (ed_varX 0 rfl) (.mk a0 W L ln (i + exP x gw0))) ?_)
      rintro _ _ ⟨_, ⟨rfl, rfl⟩, rfl⟩
      walk_at "env"
      rw [hw9.1]
      refine ws_cons (ws_unpackP (ep_methW 0 G_Reader_part_p2 (hr.mono (by decide)) rfl (List.mem_iff_getElem?.mpr ⟨0, rfl⟩) (ed_varX 0 rfl) (ad_cons (ED.eq (ed_bin (ed_var 1 rfl) ed_int (by walk_at "b2")) (show _ = D.int ((room - 1 : Nat) : Int) from congrArg D.int (by omega))) ad_nil) (.mk a0 W L ln (i + exP x gw0 + 1) p9.2 (((exL x).drop (gw0 + 1)).flatMap opW ++ S) (room - 1) hw9.2.2 hL (exL_ok x hx p9 hm9).1 (hP p9 hm9))) ?_)
      rintro _ _ ⟨_, ⟨rfl, rfl⟩, rfl⟩
      refine ⟨_, _, dg_tup rfl (dgs_cons (dg_name 5 nd) (dgs_cons (dg_name 6 nd) dgs_nil)), ?_⟩
      walk_at "env"
      refine ws_cons (ws_set 2 nd (ed_tup (ad_cons (ed_var 4 rfl) (ad_cons (ed_var 2 rfl) (ad_cons (ed_var 5 rfl) ad_nil)))) ?_)
      walk_at "env"
      refine ws_cons (ws_set 3 nd (ed_bin ed_int (ed_callB (id := "max") (by rfl) B.«max» bb_max (ad_cons (ed_var 3 rfl) (ad_cons (ed_var 6 rfl) ad_nil)) (bc_max2 rfl)) (by walk_at "b2")) ?_)
      walk_at "env"
      refine ws_cons (ws_if (td_cmp (ed_var 3 rfl) (ed_var 1 rfl) (by walk_at "c2")) (fun hc3 => ?_) (fun hc3 => ?_))
      · skip
        exfalso; have h9 := of_decide_eq_true hc3; have h8 : max (exF x gw0).dep p9.2.dep + 1 ≤ x.dep := by have h7 := exF_dep x (gw0 + 1); rw [exF_succ hp9] at h7; exact h7
        omega
      · skip
        clear hc3
        refine ws_nil ?_
        refine ws_nil ?_
        refine ⟨gw0 + 1, ?_, by omega, by omega⟩
        rw [exF_succ hp9, exP_succ hp9, show i + (exP x gw0 + 1 + (ptW p9.2).length) = i + exP x gw0 + 1 + (ptW p9.2).length by omega, show ((Ex.two p9.1 (exF x gw0) p9.2).dep : Int) = 1 + max ((exF x gw0).dep : Int) (p9.2.dep : Int) by show ((max (exF x gw0).dep p9.2.dep + 1 : Nat) : Int) = _; omega]
        rfl
    · skip
      have hend9 : gw0 = (exL x).length := by
        rcases Nat.lt_or_eq_of_le hW0 with q | q
        · exfalso; rw [(wAt_hd (sp_next hW q)).1, opP_in] at hw0; cases hw0
        · exact q
      subst hend9
      refine ws_cons (ws_retC 0 (ed_tup (ad_cons (ed_var 2 rfl) (ad_cons (ed_var 3 rfl) ad_nil))) rfl (Or.inl ⟨_, _, rfl, ?_⟩))
      rw [exP_full, exF_full]
      exact ⟨rfl, rfl⟩
abbrev s_Reader_in_parentheses_p3 : Stmt := inClass (top 36) 6
theorem sc_Reader_in_parentheses_p3 : FnScope ["self", "room", "found", "depth"] ["self", "room"] (defScope s_Reader_in_parentheses_p3) := ⟨rfl, rfl, rfl, by decide +kernel, rfl, by decide +kernel, by decide +kernel⟩
theorem ok_Reader_in_parentheses_p3 {f : Addr} {fd : FuncData} (F : Fun K "_in_parentheses" "Reader._in_parentheses" s_Reader_in_parentheses_p3 f fd) (B : Bt mg) (KC : Kt K mg) (KL : Lt K mg) (WD : Zdt K w mg) (G_Reader_chain_p3 : FnML P w K mg base "Reader" "_chain" 8 R_Reader_chain_p3) (G_Reader_read_word : FnML P w K mg base "Reader" "_read_word" 2 R_Reader_read_word) :
    FnOk P w K mg base CX0 9 f fd ["self", "room"] (spL K R_Reader_in_parentheses_p3) := by
  refine fn_okL (k := 8) F sc_Reader_in_parentheses_p3 (fun a cs ds Ψ h => by cases h; rfl) fun a0 cs0 ds Ψ hR cdv A outer s H E hr => ?_
  have nd := sc_Reader_in_parentheses_p3.nd
  have hu := hr.units
  rcases hR with ⟨W, L, ln, i, x, S, room, hT, hW, hL, hx, hd⟩
  have hpos := exL_pos hT
  have hda := exA_dep x
  have hw := wAt_hd (drop_app hW)
  walk_at "en"
  refine ws_cons (ws_unpackP (ep_methW 0 G_Reader_chain_p3 (hr.mono (by decide)) rfl (List.mem_iff_getElem?.mpr ⟨0, rfl⟩) (ed_varX 0 rfl) (ad_cons (ed_var 1 rfl) ad_nil) (.mk a0 W L ln i x ((")" : Str) :: S) room hW (stop_par S) hL hx (by omega) (fun p hp => by have := (exL_ok x hx p hp).2; omega))) ?_)
  rintro _ _ ⟨_, ⟨rfl, rfl⟩, rfl⟩
  refine ⟨_, _, dg_tup rfl (dgs_cons (dg_name 2 nd) (dgs_cons (dg_name 3 nd) dgs_nil)), ?_⟩
  walk_at "env"
  refine ws_cons (ws_ifP (tp_or2 (TD.eq (td_cmp (ed_ix (ED.eq (ed_var 2 rfl) (ex_hd x)) ed_int IX.t0) (ed_const KC.«PAIRING» (by rfl)) (c2_notInStr (ys := opL4) (.tup _)) (by rfl)) (by rw [ex_inP, hT]; rfl)) (tp_cmpL (d1 := .str (wAtI W (i + (exW x).length))) (ρ2 := [Sl.ox (rdCs a0 W L ln (i + (exW x).length + 1)) (.ad a0), .sh (.int (room : Int)), .sh x.e, .sh (.int (x.dep : Int))]) (ep_meth0W 0 G_Reader_read_word (hr.mono (by decide)) rfl (List.mem_iff_getElem?.mpr ⟨0, rfl⟩) (ed_varX 0 rfl) (.mk a0 W L ln (i + (exW x).length))) (by rintro _ _ ⟨_, ⟨rfl, rfl⟩, rfl⟩; exact ⟨rfl, rfl⟩) ed_str c2_neS (by rfl))) ?_ ?_)
  · rintro _ ⟨h9, rfl⟩
    exfalso; rw [hw.1] at h9; revert h9; decide +kernel
  rintro _ ⟨_, rfl⟩
  refine ws_nil ?_
  refine ws_cons (ws_retC 0 (ed_tup (ad_cons (ed_var 2 rfl) (ad_cons (ed_var 3 rfl) ad_nil))) rfl (Or.inl ⟨_, _, rfl, ?_⟩))
  exact ⟨rfl, rfl⟩
abbrev s_Reader_part_p3 : Stmt := inClass (top 36) 5
theorem sc_Reader_part_p3 : FnScope ["self", "room", "word", "n", "inner", "depth"] ["self", "room"] (defScope s_Reader_part_p3) := ⟨rfl, rfl, rfl, by decide +kernel, rfl, by decide +kernel, by decide +kernel⟩
theorem ok_Reader_part_p3 {f : Addr} {fd : FuncData} (F : Fun K "_part" "Reader._part" s_Reader_part_p3 f fd) (B : Bt mg) (KC : Kt K mg) (KL : Lt K mg) (WD : Zdt K w mg) (G_Reader_in_parentheses_p3 : FnML P w K mg base "Reader" "_in_parentheses" 9 R_Reader_in_parentheses_p3) (G_Reader_part_p2 : FnML P w K mg base "Reader" "_part" 7 R_Reader_part_p2) (G_Reader_read_word : FnML P w K mg base "Reader" "_read_word" 2 R_Reader_read_word) (G_Reader_size : FnML P w K mg base "Reader" "_size" 3 R_Reader_size) :
    FnOk P w K mg base CX0 10 f fd ["self", "room"] (spL K R_Reader_part_p3) := by
  refine fn_okL (k := 9) F sc_Reader_part_p3 (fun a cs ds Ψ h => by cases h; rfl) fun a0 cs0 ds Ψ hR cdv A outer s H E hr => ?_
  have nd := sc_Reader_part_p3.nd
  have hu := hr.units
  rcases hR with ⟨W, L, ln, i, x, S, room, hW, hL, hx, hd⟩
  have hrm := okE_room hx
  walk_at "en"
  rcases x with n | ⟨o, l, r⟩ | ⟨o, n, y⟩
  · skip
    have hw := wAt_hd (w := n) (r := S) (by rw [hW, ptW_f rfl]; rfl)
    obtain ⟨l1, l2, l3⟩ := lay_lem hL hx
    refine ws_cons (ws_setP 2 nd (ep_meth0W 0 G_Reader_read_word (hr.mono (by decide)) rfl (List.mem_iff_getElem?.mpr ⟨0, rfl⟩) (ed_varX 0 rfl) (.mk a0 W L ln i)) ?_)
    rintro _ _ ⟨_, ⟨rfl, rfl⟩, rfl⟩
    walk_at "env"
    rw [hw.1]
    refine ws_cons (ws_if (td_cmp (ed_var 1 rfl) ed_int (by walk_at "c2")) (fun hc1 => ?_) (fun hc1 => ?_))
    · skip
      exfalso; have h9 := of_decide_eq_true hc1; omega
    · skip
      clear hc1
      refine ws_nil ?_
      refine ws_cons (ws_if (TD.eq (td_cmp (ed_var 2 rfl) ed_str c2_eqS (by rfl)) l1) (fun hc2 => ?_) (fun hc2 => ?_))
      · skip
        cases hc2
      · skip
        clear hc2
        refine ws_nil ?_
        refine ws_cons (ws_if (TD.eq (td_cmp (ed_var 2 rfl) (ed_const KC.«SIZING» (by rfl)) (c2_inStr (ys := opL3) (.tup _)) (by rfl)) l2) (fun hc3 => ?_) (fun hc3 => ?_))
        · skip
          cases hc3
        · skip
          clear hc3
          refine ws_nil ?_
          refine ws_cons (ws_if (TD.eq (td_cmp (ed_var 2 rfl) (ed_fldC 0 1 KL.«Reader» rfl (List.mem_iff_getElem?.mpr ⟨0, rfl⟩) (ed_varX 0 rfl)) (c2_notInStr (ys := L) (.tup _)) (by rfl)) (show (!decide (n ∈ L)) = false by rw [l3]; rfl)) (fun hc4 => ?_) (fun hc4 => ?_))
          · skip
            cases hc4
          · skip
            clear hc4
            refine ws_nil ?_
            refine ws_cons (ws_retC 0 (ed_tup (ad_cons (ed_tup (ad_cons ed_str (ad_cons (ed_var 2 rfl) ad_nil))) (ad_cons ed_int ad_nil))) rfl (Or.inl ⟨_, _, rfl, ?_⟩))
            exact ⟨rfl, rfl⟩
  · skip
    have hw := wAt_hd (w := "(") (r := exW (Ex.two o l r) ++ (")" : Str) :: S) (by rw [hW, ptW_t rfl]; simp)
    refine ws_cons (ws_setP 2 nd (ep_meth0W 0 G_Reader_read_word (hr.mono (by decide)) rfl (List.mem_iff_getElem?.mpr ⟨0, rfl⟩) (ed_varX 0 rfl) (.mk a0 W L ln i)) ?_)
    rintro _ _ ⟨_, ⟨rfl, rfl⟩, rfl⟩
    walk_at "env"
    rw [hw.1]
    refine ws_cons (ws_if (td_cmp (ed_var 1 rfl) ed_int (by walk_at "c2")) (fun hc5 => ?_) (fun hc5 => ?_))
    · skip
      exfalso; have h9 := of_decide_eq_true hc5; omega
    · skip
      clear hc5
      refine ws_nil ?_
      refine ws_cons (ws_if (TD.eq (td_cmp (ed_var 2 rfl) ed_str c2_eqS (by rfl)) (decide_eq_true rfl)) (fun hc6 => ?_) (fun hc6 => ?_))
      · skip
        clear hc6
        refine ws_cons (ws_retCP 0 (ep_methW 0 G_Reader_in_parentheses_p3 (hr.mono (by decide)) rfl (List.mem_iff_getElem?.mpr ⟨0, rfl⟩) (ed_varX 0 rfl) (ad_cons (ed_var 1 rfl) ad_nil) (.mk a0 W L ln (i + 1) (Ex.two o l r) S room rfl hw.2.2 hL hx hd)) ?_)
        rintro _ _ ⟨_, ⟨rfl, rfl⟩, rfl⟩
        exact ⟨_, _, rfl, Or.inl ⟨_, _, rfl, congrArg (rdCs a0 W L ln) (by rw [ptW_t (x := Ex.two o l r) rfl, List.length_cons, List.length_append, List.length_cons, List.length_nil]; omega), rfl⟩⟩
      · skip
        cases hc6
  · skip
    obtain ⟨hsz, hy⟩ := siz_lem hx
    have hdy : y.dep ≤ 2 := by unfold Ex.dep at hd; omega
    have hw := wAt_hd (w := opS o) (r := stI n :: (ptW y ++ S)) (by rw [hW, ptW_f rfl, exW_siz]; rfl)
    have hw2 := wAt_hd hw.2.2
    refine ws_cons (ws_setP 2 nd (ep_meth0W 0 G_Reader_read_word (hr.mono (by decide)) rfl (List.mem_iff_getElem?.mpr ⟨0, rfl⟩) (ed_varX 0 rfl) (.mk a0 W L ln i)) ?_)
    rintro _ _ ⟨_, ⟨rfl, rfl⟩, rfl⟩
    walk_at "env"
    rw [hw.1]
    refine ws_cons (ws_if (td_cmp (ed_var 1 rfl) ed_int (by walk_at "c2")) (fun hc7 => ?_) (fun hc7 => ?_))
    · skip
      exfalso; have h9 := of_decide_eq_true hc7; omega
    · skip
      clear hc7
      refine ws_nil ?_
      refine ws_cons (ws_if (TD.eq (td_cmp (ed_var 2 rfl) ed_str c2_eqS (by rfl)) (kw_par.1 o)) (fun hc8 => ?_) (fun hc8 => ?_))
      · skip
        cases hc8
      · skip
        clear hc8
        refine ws_nil ?_
        refine ws_cons (ws_if (TD.eq (td_cmp (ed_var 2 rfl) (ed_const KC.«SIZING» (by rfl)) (c2_inStr (ys := opL3) (.tup _)) (by rfl)) (opS_in o)) (fun hc9 => ?_) (fun hc9 => ?_))
        · skip
          clear hc9
          refine ws_cons (ws_setP 3 nd (ep_methW 0 G_Reader_size (hr.mono (by decide)) rfl (List.mem_iff_getElem?.mpr ⟨0, rfl⟩) (ed_varX 0 rfl) (ad_cons (ed_var 2 rfl) ad_nil) (.mk a0 W L ln (i + 1) o n hw2.1 hsz)) ?_)
          rintro _ _ ⟨_, ⟨rfl, rfl⟩, rfl⟩
          walk_at "env"
          refine ws_cons (ws_unpackP (ep_methW 0 G_Reader_part_p2 (hr.mono (by decide)) rfl (List.mem_iff_getElem?.mpr ⟨0, rfl⟩) (ed_varX 0 rfl) (ad_cons (ED.eq (ed_bin (ed_var 1 rfl) ed_int (by walk_at "b2")) (show _ = D.int ((room - 1 : Nat) : Int) from congrArg D.int (by omega))) ad_nil) (.mk a0 W L ln (i + 1 + 1) y S (room - 1) hw2.2.2 hL hy hdy)) ?_)
          rintro _ _ ⟨_, ⟨rfl, rfl⟩, rfl⟩
          refine ⟨_, _, dg_tup rfl (dgs_cons (dg_name 4 nd) (dgs_cons (dg_name 5 nd) dgs_nil)), ?_⟩
          walk_at "env"
          refine ws_cons (ws_retC 0 (ed_tup (ad_cons (ed_tup (ad_cons (ed_var 2 rfl) (ad_cons (ed_var 3 rfl) (ad_cons (ed_var 4 rfl) ad_nil)))) (ad_cons (ed_bin (ed_var 5 rfl) ed_int (by walk_at "b2")) ad_nil))) rfl (Or.inl ⟨_, _, rfl, ?_⟩))
          exact ⟨congrArg (rdCs a0 W L ln) (by rw [ptW_f (x := Ex.siz o n y) rfl, exW_siz, List.length_cons, List.length_cons]; omega), congrArg (fun z : Int => D.tup [(Ex.siz o n y).e, .int z]) (show ((y.dep : Int) + 1) = ((y.dep + 1 : Nat) : Int) by omega)⟩
        · skip
          cases hc9
abbrev s_Reader_chain_p4 : Stmt := inClass (top 36) 4
theorem sc_Reader_chain_p4 : FnScope ["self", "room", "found", "depth", "operation", "right", "right_depth"] ["self", "room"] (defScope s_Reader_chain_p4) := ⟨rfl, rfl, rfl, by decide +kernel, rfl, by decide +kernel, by decide +kernel⟩
theorem ok_Reader_chain_p4 {f : Addr} {fd : FuncData} (F : Fun K "_chain" "Reader._chain" s_Reader_chain_p4 f fd) (B : Bt mg) (KC : Kt K mg) (KL : Lt K mg) (WD : Zdt K w mg) (G_Reader_next_word : FnM P w K mg base "Reader" "_next_word" 1 R_Reader_next_word) (G_Reader_part_p3 : FnML P w K mg base "Reader" "_part" 10 R_Reader_part_p3) (G_Reader_read_word : FnML P w K mg base "Reader" "_read_word" 2 R_Reader_read_word) :
    FnOk P w K mg base CX0 11 f fd ["self", "room"] (spL K R_Reader_chain_p4) := by
  refine fn_okL (k := 10) F sc_Reader_chain_p4 (fun a cs ds Ψ h => by cases h; rfl) fun a0 cs0 ds Ψ hR cdv A outer s H E hr => ?_
  have nd := sc_Reader_chain_p4.nd
  have hu := hr.units
  rcases hR with ⟨W, L, ln, i, x, S, room, hW, st, hL, hx, hA, hP⟩
  have hrm := okE_room hx
  obtain ⟨w0, r0, hex, hhd⟩ := ex_head hL hx
  have hfw := wAt_hd (W := W) (i := i) (w := w0) (r := r0 ++ ((exL x).flatMap opW ++ S)) (by rw [hW, sp_words x, hex]; simp)
  have hdr := okE_dep hx
  walk_at "en"
  refine ws_cons (ws_if (td_show 0 (rdO W L ln i) rfl (fun _ _ v h r => rd_show v h r) (td_cmp (ed_meth0 G_Reader_next_word (hr.mono (by decide)) (ed_var 0 rfl) (by first | exact .mk W L ln i | exact .mk W L ln (i + exP x gw0))) ed_str c2_eqS (by rfl))) (fun hc1 => ?_) (fun hc1 => ?_))
  · skip
    exfalso; rw [hfw.1, hhd] at hc1; cases hc1
  · skip
    clear hc1
    refine ws_nil ?_
    refine ws_cons (ws_unpackP (ep_methW 0 G_Reader_part_p3 (hr.mono (by decide)) rfl (List.mem_iff_getElem?.mpr ⟨0, rfl⟩) (ed_varX 0 rfl) (ad_cons (ed_var 1 rfl) ad_nil) (.mk a0 W L ln i (exA x) ((exL x).flatMap opW ++ S) room (by rw [hW, sp_words x, ptW_f (exA_not x), List.append_assoc]) hL (exA_ok x hx) hA)) ?_)
    rintro _ _ ⟨_, ⟨rfl, rfl⟩, rfl⟩
    refine ⟨_, _, dg_tup rfl (dgs_cons (dg_name 2 nd) (dgs_cons (dg_name 3 nd) dgs_nil)), ?_⟩
    walk_at "env"
    rw [ptW_f (exA_not x), ← exP_zero x, ← exF_zero x]
    refine ws_cons (ws_whileU (γ := Nat) (U := Sl × Sl × Sl) (fun g u => [(0, .ox (rdCs a0 W L ln (i + exP x g)) (.ad a0)), (2, .sh (exF x g).e), (3, .sh (.int ((exF x g).dep : Int))), (4, u.1), (5, u.2.1), (6, u.2.2)]) (fun r => (r.getD 4 .no, r.getD 5 .no, r.getD 6 .no)) (fun g => g ≤ (exL x).length) (fun g => (exL x).length - g) (0) (rfl) (Nat.zero_le _) ?_)
    intro gw0 uw0 hW0
    walk_at "env"
    refine ⟨_, (td_show 0 (rdO W L ln (i + exP x gw0)) rfl (fun _ _ v h r => rd_show v h r) (td_cmp (ed_meth0 G_Reader_next_word (hr.mono (by decide)) (ed_var 0 rfl) (by first | exact .mk W L ln i | exact .mk W L ln (i + exP x gw0))) (ed_const KC.«PAIRING» (by rfl)) (c2_inStr (ys := opL4) (.tup _)) (by rfl))), fun hw0 => ?_, fun hw0 => ?_⟩
    · skip
      have hlt9 : gw0 < (exL x).length := by
        rcases Nat.lt_or_eq_of_le hW0 with q | q
        · exact q
        · exfalso; rw [q, stop_at (sp_end hW) st] at hw0; cases hw0
      have hn9 := sp_next hW hlt9
      have hp9 : (exL x)[gw0]? = some (exL x)[gw0] := List.getElem?_eq_getElem hlt9
      obtain ⟨p9, hp8⟩ : ∃ p, p = (exL x)[gw0] := ⟨_, rfl⟩
      rw [← hp8] at hn9 hp9
      have hm9 := List.mem_of_getElem? hp9
      have hw9 := wAt_hd hn9
      refine ws_cons (ws_setP 4 nd (ep_meth0W 0 G_Reader_read_word (hr.mono (by decide)) rfl (List.mem_iff_getElem?.mpr ⟨0, rfl⟩) (ed_varX 0 rfl) (.mk a0 W L ln (i + exP x gw0))) ?_)
      rintro _ _ ⟨_, ⟨rfl, rfl⟩, rfl⟩
      walk_at "env"
      rw [hw9.1]
      refine ws_cons (ws_unpackP (ep_methW 0 G_Reader_part_p3 (hr.mono (by decide)) rfl (List.mem_iff_getElem?.mpr ⟨0, rfl⟩) (ed_varX 0 rfl) (ad_cons (ED.eq (ed_bin (ed_var 1 rfl) ed_int (by walk_at "b2")) (show _ = D.int ((room - 1 : Nat) : Int) from congrArg D.int (by omega))) ad_nil) (.mk a0 W L ln (i + exP x gw0 + 1) p9.2 (((exL x).drop (gw0 + 1)).flatMap opW ++ S) (room - 1) hw9.2.2 hL (exL_ok x hx p9 hm9).1 (hP p9 hm9))) ?_)
      rintro _ _ ⟨_, ⟨rfl, rfl⟩, rfl⟩
      refine ⟨_, _, dg_tup rfl (dgs_cons (dg_name 5 nd) (dgs_cons (dg_name 6 nd) dgs_nil)), ?_⟩
      walk_at "env"
      refine ws_cons (ws_set 2 nd (ed_tup (ad_cons (ed_var 4 rfl) (ad_cons (ed_var 2 rfl) (ad_cons (ed_var 5 rfl) ad_nil)))) ?_)
      walk_at "env"
      refine ws_cons (ws_set 3 nd (ed_bin ed_int (ed_callB (id := "max") (by rfl) B.«max» bb_max (ad_cons (ed_var 3 rfl) (ad_cons (ed_var 6 rfl) ad_nil)) (bc_max2 rfl)) (by walk_at "b2")) ?_)
      walk_at "env"
      refine ws_cons (ws_if (td_cmp (ed_var 3 rfl) (ed_var 1 rfl) (by walk_at "c2")) (fun hc3 => ?_) (fun hc3 => ?_))
      · skip
        exfalso; have h9 := of_decide_eq_true hc3; have h8 : max (exF x gw0).dep p9.2.dep + 1 ≤ x.dep := by have h7 := exF_dep x (gw0 + 1); rw [exF_succ hp9] at h7; exact h7
        omega
      · skip
        clear hc3
        refine ws_nil ?_
        refine ws_nil ?_
        refine ⟨gw0 + 1, ?_, by omega, by omega⟩
        rw [exF_succ hp9, exP_succ hp9, show i + (exP x gw0 + 1 + (ptW p9.2).length) = i + exP x gw0 + 1 + (ptW p9.2).length by omega, show ((Ex.two p9.1 (exF x gw0) p9.2).dep : Int) = 1 + max ((exF x gw0).dep : Int) (p9.2.dep : Int) by show ((max (exF x gw0).dep p9.2.dep + 1 : Nat) : Int) = _; omega]
        rfl
    · skip
      have hend9 : gw0 = (exL x).length := by
        rcases Nat.lt_or_eq_of_le hW0 with q | q
        · exfalso; rw [(wAt_hd (sp_next hW q)).1, opP_in] at hw0; cases hw0
        · exact q
      subst hend9
      refine ws_cons (ws_retC 0 (ed_tup (ad_cons (ed_var 2 rfl) (ad_cons (ed_var 3 rfl) ad_nil))) rfl (Or.inl ⟨_, _, rfl, ?_⟩))
      rw [exP_full, exF_full]
      exact ⟨rfl, rfl⟩
abbrev s_Reader_in_parentheses_p4 : Stmt := inClass (top 36) 6
theorem sc_Reader_in_parentheses_p4 : FnScope ["self", "room", "found", "depth"] ["self", "room"] (defScope s_Reader_in_parentheses_p4) := ⟨rfl, rfl, rfl, by decide +kernel, rfl, by decide +kernel, by decide +kernel⟩
theorem ok_Reader_in_parentheses_p4 {f : Addr} {fd : FuncData} (F : Fun K "_in_parentheses" "Reader._in_parentheses" s_Reader_in_parentheses_p4 f fd) (B : Bt mg) (KC : Kt K mg) (KL : Lt K mg) (WD : Zdt K w mg) (G_Reader_chain_p4 : FnML P w K mg base "Reader" "_chain" 11 R_Reader_chain_p4) (G_Reader_read_word : FnML P w K mg base "Reader" "_read_word" 2 R_Reader_read_word) :
    FnOk P w K mg base CX0 12 f fd ["self", "room"] (spL K R_Reader_in_parentheses_p4) := by
  refine fn_okL (k := 11) F sc_Reader_in_parentheses_p4 (fun a cs ds Ψ h => by cases h; rfl) fun a0 cs0 ds Ψ hR cdv A outer s H E hr => ?_
  have nd := sc_Reader_in_parentheses_p4.nd
  have hu := hr.units
  rcases hR with ⟨W, L, ln, i, x, S, room, hT, hW, hL, hx, hd⟩
  have hpos := exL_pos hT
  have hda := exA_dep x
  have hw := wAt_hd (drop_app hW)
  walk_at "en"
  refine ws_cons (ws_unpackP (ep_methW 0 G_Reader_chain_p4 (hr.mono (by decide)) rfl (List.mem_iff_getElem?.mpr ⟨0, rfl⟩) (ed_varX 0 rfl) (ad_cons (ed_var 1 rfl) ad_nil) (.mk a0 W L ln i x ((")" : Str) :: S) room hW (stop_par S) hL hx (by omega) (fun p hp => by have := (exL_ok x hx p hp).2; omega))) ?_)
  rintro _ _ ⟨_, ⟨rfl, rfl⟩, rfl⟩
  refine ⟨_, _, dg_tup rfl (dgs_cons (dg_name 2 nd) (dgs_cons (dg_name 3 nd) dgs_nil)), ?_⟩
  walk_at "env"
  refine ws_cons (ws_ifP (tp_or2 (TD.eq (td_cmp (ed_ix (ED.eq (ed_var 2 rfl) (ex_hd x)) ed_int IX.t0) (ed_const KC.«PAIRING» (by rfl)) (c2_notInStr (ys := opL4) (.tup _)) (by rfl)) (by rw [ex_inP, hT]; rfl)) (tp_cmpL (d1 := .str (wAtI W (i + (exW x).length))) (ρ2 := [Sl.ox (rdCs a0 W L ln (i + (exW x).length + 1)) (.ad a0), .sh (.int (room : Int)), .sh x.e, .sh (.int (x.dep : Int))]) (ep_meth0W 0 G_Reader_read_word (hr.mono (by decide)) rfl (List.mem_iff_getElem?.mpr ⟨0, rfl⟩) (ed_varX 0 rfl) (.mk a0 W L ln (i + (exW x).length))) (by rintro _ _ ⟨_, ⟨rfl, rfl⟩, rfl⟩; exact ⟨rfl, rfl⟩) ed_str c2_neS (by rfl))) ?_ ?_)
  · rintro _ ⟨h9, rfl⟩
    exfalso; rw [hw.1] at h9; revert h9; decide +kernel
  rintro _ ⟨_, rfl⟩
  refine ws_nil ?_
  refine ws_cons (ws_retC 0 (ed_tup (ad_cons (ed_var 2 rfl) (ad_cons (ed_var 3 rfl) ad_nil))) rfl (Or.inl ⟨_, _, rfl, ?_⟩))
  exact ⟨rfl, rfl⟩
abbrev s_Reader_part_p4 : Stmt := inClass (top 36) 5
theorem sc_Reader_part_p4 : FnScope ["self", "room", "word", "n", "inner", "depth"] ["self", "room"] (defScope s_Reader_part_p4) := ⟨rfl, rfl, rfl, by decide +kernel, rfl, by decide +kernel, by decide +kernel⟩
theorem ok_Reader_part_p4 {f : Addr} {fd : FuncData} (F : Fun K "_part" "Reader._part" s_Reader_part_p4 f fd) (B : Bt mg) (KC : Kt K mg) (KL : Lt K mg) (WD : Zdt K w mg) (G_Reader_in_parentheses_p4 : FnML P w K mg base "Reader" "_in_parentheses" 12 R_Reader_in_parentheses_p4) (G_Reader_part_p3 : FnML P w K mg base "Reader" "_part" 10 R_Reader_part_p3) (G_Reader_read_word : FnML P w K mg base "Reader" "_read_word" 2 R_Reader_read_word) (G_Reader_size : FnML P w K mg base "Reader" "_size" 3 R_Reader_size) :
    FnOk P w K mg base CX0 13 f fd ["self", "room"] (spL K R_Reader_part_p4) := by
  refine fn_okL (k := 12) F sc_Reader_part_p4 (fun a cs ds Ψ h => by cases h; rfl) fun a0 cs0 ds Ψ hR cdv A outer s H E hr => ?_
  have nd := sc_Reader_part_p4.nd
  have hu := hr.units
  rcases hR with ⟨W, L, ln, i, x, S, room, hW, hL, hx, hd⟩
  have hrm := okE_room hx
  walk_at "en"
  rcases x with n | ⟨o, l, r⟩ | ⟨o, n, y⟩
  · skip
    have hw := wAt_hd (w := n) (r := S) (by rw [hW, ptW_f rfl]; rfl)
    obtain ⟨l1, l2, l3⟩ := lay_lem hL hx
    refine ws_cons (ws_setP 2 nd (ep_meth0W 0 G_Reader_read_word (hr.mono (by decide)) rfl (List.mem_iff_getElem?.mpr ⟨0, rfl⟩) (ed_varX 0 rfl) (.mk a0 W L ln i)) ?_)
    rintro _ _ ⟨_, ⟨rfl, rfl⟩, rfl⟩
    walk_at "env"
    rw [hw.1]
    refine ws_cons (ws_if (td_cmp (ed_var 1 rfl) ed_int (by walk_at "c2")) (fun hc1 => ?_) (fun hc1 => ?_))
    · skip
      exfalso; have h9 := of_decide_eq_true hc1; omega
    · skip
      clear hc1
      refine ws_nil ?_
      refine ws_cons (ws_if (TD.eq (td_cmp (ed_var 2 rfl) ed_str c2_eqS (by rfl)) l1) (fun hc2 => ?_) (fun hc2 => ?_))
      · skip
        cases hc2
      · skip
        clear hc2
        refine ws_nil ?_
        refine ws_cons (ws_if (TD.eq (td_cmp (ed_var 2 rfl) (ed_const KC.«SIZING» (by rfl)) (c2_inStr (ys := opL3) (.tup _)) (by rfl)) l2) (fun hc3 => ?_) (fun hc3 => ?_))
        · skip
          cases hc3
        · skip
          clear hc3
          refine ws_nil ?_
          refine ws_cons (ws_if (TD.eq (td_cmp (ed_var 2 rfl) (ed_fldC 0 1 KL.«Reader» rfl (List.mem_iff_getElem?.mpr ⟨0, rfl⟩) (ed_varX 0 rfl)) (c2_notInStr (ys := L) (.tup _)) (by rfl)) (show (!decide (n ∈ L)) = false by rw [l3]; rfl)) (fun hc4 => ?_) (fun hc4 => ?_))
          · skip
            cases hc4
          · skip
            clear hc4
            refine ws_nil ?_
            refine ws_cons (ws_retC 0 (ed_tup (ad_cons (ed_tup (ad_cons ed_str (ad_cons (ed_var 2 rfl) ad_nil))) (ad_cons ed_int ad_nil))) rfl (Or.inl ⟨_, _, rfl, ?_⟩))
            exact ⟨rfl, rfl⟩
  · skip
    have hw := wAt_hd (w := "(") (r := exW (Ex.two o l r) ++ (")" : Str) :: S) (by rw [hW, ptW_t rfl]; simp)
    refine ws_cons (ws_setP 2 nd (ep_meth0W 0 G_Reader_read_word (hr.mono (by decide)) rfl (List.mem_iff_getElem?.mpr ⟨0, rfl⟩) (ed_varX 0 rfl) (.mk a0 W L ln i)) ?_)
    rintro _ _ ⟨_, ⟨rfl, rfl⟩, rfl⟩
    walk_at "env"
    rw [hw.1]
    refine ws_cons (ws_if (td_cmp (ed_var 1 rfl) ed_int (by walk_at "c2")) (fun hc5 => ?_) (fun hc5 => ?_))
    · skip
      exfalso; have h9 := of_decide_eq_true hc5; omega
    · skip
      clear hc5
      refine ws_nil ?_
      refine ws_cons (ws_if (TD.eq (td_cmp (ed_var 2 rfl) ed_str c2_eqS (by rfl)) (decide_eq_true rfl)) (fun hc6 => ?_) (fun hc6 => ?_))
      · skip
        clear hc6
        refine ws_cons (ws_retCP 0 (ep_methW 0 G_Reader_in_parentheses_p4 (hr.mono (by decide)) rfl (List.mem_iff_getElem?.mpr ⟨0, rfl⟩) (ed_varX 0 rfl) (ad_cons (ed_var 1 rfl) ad_nil) (.mk a0 W L ln (i + 1) (Ex.two o l r) S room rfl hw.2.2 hL hx hd)) ?_)
        rintro _ _ ⟨_, ⟨rfl, rfl⟩, rfl⟩
        exact ⟨_, _, rfl, Or.inl ⟨_, _, rfl, congrArg (rdCs a0 W L ln) (by rw [ptW_t (x := Ex.two o l r) rfl, List.length_cons, List.length_append, List.length_cons, List.length_nil]; omega), rfl⟩⟩
      · skip
        cases hc6
  · skip
    obtain ⟨hsz, hy⟩ := siz_lem hx
    have hdy : y.dep ≤ 3 := by unfold Ex.dep at hd; omega
    have hw := wAt_hd (w := opS o) (r := stI n :: (ptW y ++ S)) (by rw [hW, ptW_f rfl, exW_siz]; rfl)
    have hw2 := wAt_hd hw.2.2
    refine ws_cons (ws_setP 2 nd (ep_meth0W 0 G_Reader_read_word (hr.mono (by decide)) rfl (List.mem_iff_getElem?.mpr ⟨0, rfl⟩) (ed_varX 0 rfl) (.mk a0 W L ln i)) ?_)
    rintro _ _ ⟨_, ⟨rfl, rfl⟩, rfl⟩
    walk_at "env"
    rw [hw.1]
    refine ws_cons (ws_if (td_cmp (ed_var 1 rfl) ed_int (by walk_at "c2")) (fun hc7 => ?_) (fun hc7 => ?_))
    · skip
      exfalso; have h9 := of_decide_eq_true hc7; omega
    · skip
      clear hc7
      refine ws_nil ?_
      refine ws_cons (ws_if (TD.eq (td_cmp (ed_var 2 rfl) ed_str c2_eqS (by rfl)) (kw_par.1 o)) (fun hc8 => ?_) (fun hc8 => ?_))
      · skip
        cases hc8
      · skip
        clear hc8
        refine ws_nil ?_
        refine ws_cons (ws_if (TD.eq (td_cmp (ed_var 2 rfl) (ed_const KC.«SIZING» (by rfl)) (c2_inStr (ys := opL3) (.tup _)) (by rfl)) (opS_in o)) (fun hc9 => ?_) (fun hc9 => ?_))
        · skip
          clear hc9
          refine ws_cons (ws_setP 3 nd (ep_methW 0 G_Reader_size (hr.mono (by decide)) rfl (List.mem_iff_getElem?.mpr ⟨0, rfl⟩) (ed_varX 0 rfl) (ad_cons (ed_var 2 rfl) ad_nil) (.mk a0 W L ln (i + 1) o n hw2.1 hsz)) ?_)
          rintro _ _ ⟨_, ⟨rfl, rfl⟩, rfl⟩
          walk_at "env"
          refine ws_cons (ws_unpackP (ep_methW 0 G_Reader_part_p3 (hr.mono (by decide)) rfl (List.mem_iff_getElem?.mpr ⟨0, rfl⟩) (ed_varX 0 rfl) (ad_cons (ED.eq (ed_bin (ed_var 1 rfl) ed_int (by walk_at "b2")) (show _ = D.int ((room - 1 : Nat) : Int) from congrArg D.int (by omega))) ad_nil) (.mk a0 W L ln (i + 1 + 1) y S (room - 1) hw2.2.2 hL hy hdy)) ?_)
          rintro _ _ ⟨_, ⟨rfl, rfl⟩, rfl⟩
          refine ⟨_, _, dg_tup rfl (dgs_cons (dg_name 4 nd) (dgs_cons (dg_name 5 nd) dgs_nil)), ?_⟩
          walk_at "env"
          refine ws_cons (ws_retC 0 (ed_tup (ad_cons (ed_tup (ad_cons (ed_var 2 rfl) (ad_cons (ed_var 3 rfl) (ad_cons (ed_var 4 rfl) ad_nil)))) (ad_cons (ed_bin (ed_var 5 rfl) ed_int (by walk_at "b2")) ad_nil))) rfl (Or.inl ⟨_, _, rfl, ?_⟩))
          exact ⟨congrArg (rdCs a0 W L ln) (by rw [ptW_f (x := Ex.siz o n y) rfl, exW_siz, List.length_cons, List.length_cons]; omega), congrArg (fun z : Int => D.tup [(Ex.siz o n y).e, .int z]) (show ((y.dep : Int) + 1) = ((y.dep + 1 : Nat) : Int) by omega)⟩
        · skip
          cases hc9
abbrev s_Reader_chain_p5 : Stmt := inClass (top 36) 4
theorem sc_Reader_chain_p5 : FnScope ["self", "room", "found", "depth", "operation", "right", "right_depth"] ["self", "room"] (defScope s_Reader_chain_p5) := ⟨rfl, rfl, rfl, by decide +kernel, rfl, by decide +kernel, by decide +kernel⟩
theorem ok_Reader_chain_p5 {f : Addr} {fd : FuncData} (F : Fun K "_chain" "Reader._chain" s_Reader_chain_p5 f fd) (B : Bt mg) (KC : Kt K mg) (KL : Lt K mg) (WD : Zdt K w mg) (G_Reader_next_word : FnM P w K mg base "Reader" "_next_word" 1 R_Reader_next_word) (G_Reader_part_p4 : FnML P w K mg base "Reader" "_part" 13 R_Reader_part_p4) (G_Reader_read_word : FnML P w K mg base "Reader" "_read_word" 2 R_Reader_read_word) :
    FnOk P w K mg base CX0 14 f fd ["self", "room"] (spL K R_Reader_chain_p5) := by
  refine fn_okL (k := 13) F sc_Reader_chain_p5 (fun a cs ds Ψ h => by cases h; rfl) fun a0 cs0 ds Ψ hR cdv A outer s H E hr => ?_
  have nd := sc_Reader_chain_p5.nd
  have hu := hr.units
  rcases hR with ⟨W, L, ln, i, x, S, room, hW, st, hL, hx, hA, hP⟩
  have hrm := okE_room hx
  obtain ⟨w0, r0, hex, hhd⟩ := ex_head hL hx
  have hfw := wAt_hd (W := W) (i := i) (w := w0) (r := r0 ++ ((exL x).flatMap opW ++ S)) (by rw [hW, sp_words x, hex]; simp)
  have hdr := okE_dep hx
  walk_at "en"
  refine ws_cons (ws_if (td_show 0 (rdO W L ln i) rfl (fun _ _ v h r => rd_show v h r) (td_cmp (ed_meth0 G_Reader_next_word (hr.mono (by decide)) (ed_var 0 rfl) (by first | exact .mk W L ln i | exact .mk W L ln (i + exP x gw0))) ed_str c2_eqS (by rfl))) (fun hc1 => ?_) (fun hc1 => ?_))
  · skip
    exfalso; rw [hfw.1, hhd] at hc1; cases hc1
  · skip
    clear hc1
    refine ws_nil ?_
    refine ws_cons (ws_unpackP (ep_methW 0 G_Reader_part_p4 (hr.mono (by decide)) rfl (List.mem_iff_getElem?.mpr ⟨0, rfl⟩) (ed_varX 0 rfl) (ad_cons (ed_var 1 rfl) ad_nil) (.mk a0 W L ln i (exA x) ((exL x).flatMap opW ++ S) room (by rw [hW, sp_words x, ptW_f (exA_not x), List.append_assoc]) hL (exA_ok x hx) hA)) ?_)
    rintro _ _ ⟨_, ⟨rfl, rfl⟩, rfl⟩
    refine ⟨_, _, dg_tup rfl (dgs_cons (dg_name 2 nd) (dgs_cons (dg_name 3 nd) dgs_nil)), ?_⟩
    walk_at "env"
    rw [ptW_f (exA_not x), ← exP_zero x, ← exF_zero x]
    refine ws_cons (ws_whileU (γ := Nat) (U := Sl × Sl × Sl) (fun g u => [(0, .ox (rdCs a0 W L ln (i + exP x g)) (.ad a0)), (2, .sh (exF x g).e), (3, .sh (.int ((exF x g).dep : Int))), (4, u.1), (5, u.2.1), (6, u.2.2)]) (fun r => (r.getD 4 .no, r.getD 5 .no, r.getD 6 .no)) (fun g => g ≤ (exL x).length) (fun g => (exL x).length - g) (0) (rfl) (Nat.zero_le _) ?_)
    intro gw0 uw0 hW0
    walk_at "env"
    refine ⟨_, (td_show 0 (rdO W L ln (i + exP x gw0)) rfl (fun _ _ v h r => rd_show v h r) (td_cmp (ed_meth0 G_Reader_next_word (hr.mono (by decide)) (ed_var 0 rfl) (by first | exact .mk W L ln i | exact .mk W L ln (i + exP x gw0))) (ed_const KC.«PAIRING» (by rfl)) (c2_inStr (ys := opL4) (.tup _)) (by rfl))), fun hw0 => ?_, fun hw0 => ?_⟩
    · skip
      have hlt9 : gw0 < (exL x).length := by
        rcases Nat.lt_or_eq_of_le hW0 with q | q
        · exact q
        · exfalso; rw [q, stop_at (sp_end hW) st] at hw0; cases hw0
      have hn9 := sp_next hW hlt9
      have hp9 : (exL x)[gw0]? = some (exL x)[gw0] := List.getElem?_eq_getElem hlt9
      obtain ⟨p9, hp8⟩ : ∃ p, p = (exL x)[gw0] := ⟨_, rfl⟩
      rw [← hp8] at hn9 hp9
      have hm9 := List.mem_of_getElem? hp9
      have hw9 := wAt_hd hn9
      refine ws_cons (ws_setP 4 nd (ep_meth0W 0 G_Reader_read_word (hr.mono (by decide)) rfl (List.mem_iff_getElem?.mpr ⟨0, rfl⟩) (ed_varX 0 rfl) (.mk a0 W L ln (i + exP x gw0))) ?_)
      rintro _ _ ⟨_, ⟨rfl, rfl⟩, rfl⟩
      walk_at "env"
      rw [hw9.1]
      refine ws_cons (ws_unpackP (ep_methW 0 G_Reader_part_p4 (hr.mono (by decide)) rfl (List.mem_iff_getElem?.mpr ⟨0, rfl⟩) (ed_varX 0 rfl) (ad_cons (ED.eq (ed_bin (ed_var 1 rfl) ed_int (by walk_at "b2")) (show _ = D.int ((room - 1 : Nat) : Int) from congrArg D.int (by omega))) ad_nil) (.mk a0 W L ln (i + exP x gw0 + 1) p9.2 (((exL x).drop (gw0 + 1)).flatMap opW ++ S) (room - 1) hw9.2.2 hL (exL_ok x hx p9 hm9).1 (hP p9 hm9))) ?_)
      rintro _ _ ⟨_, ⟨rfl, rfl⟩, rfl⟩
      refine ⟨_, _, dg_tup rfl (dgs_cons (dg_name 5 nd) (dgs_cons (dg_name 6 nd) dgs_nil)), ?_⟩
      walk_at "env"
      refine ws_cons (ws_set 2 nd (ed_tup (ad_cons (ed_var 4 rfl) (ad_cons (ed_var 2 rfl) (ad_cons (ed_var 5 rfl) ad_nil)))) ?_)
      walk_at "env"
      refine ws_cons (ws_set 3 nd (ed_bin ed_int (ed_callB (id := "max") (by rfl) B.«max» bb_max (ad_cons (ed_var 3 rfl) (ad_cons (ed_var 6 rfl) ad_nil)) (bc_max2 rfl)) (by walk_at "b2")) ?_)
      walk_at "env"
      refine ws_cons (ws_if (td_cmp (ed_var 3 rfl) (ed_var 1 rfl) (by walk_at "c2")) (fun hc3 => ?_) (fun hc3 => ?_))
      · skip
        exfalso; have h9 := of_decide_eq_true hc3; have h8 : max (exF x gw0).dep p9.2.dep + 1 ≤ x.dep := by have h7 := exF_dep x (gw0 + 1); rw [exF_succ hp9] at h7; exact h7
        omega
      · skip
        clear hc3
        refine ws_nil ?_
        refine ws_nil ?_
        refine ⟨gw0 + 1, ?_, by omega, by omega⟩
        rw [exF_succ hp9, exP_succ hp9, show i + (exP x gw0 + 1 + (ptW p9.2).length) = i + exP x gw0 + 1 + (ptW p9.2).length by omega, show ((Ex.two p9.1 (exF x gw0) p9.2).dep : Int) = 1 + max ((exF x gw0).dep : Int) (p9.2.dep : Int) by show ((max (exF x gw0).dep p9.2.dep + 1 : Nat) : Int) = _; omega]
        rfl
    · skip
      have hend9 : gw0 = (exL x).length := by
        rcases Nat.lt_or_eq_of_le hW0 with q | q
        · exfalso; rw [(wAt_hd (sp_next hW q)).1, opP_in] at hw0; cases hw0
        · exact q
      subst hend9
      refine ws_cons (ws_retC 0 (ed_tup (ad_cons (ed_var 2 rfl) (ad_cons (ed_var 3 rfl) ad_nil))) rfl (Or.inl ⟨_, _, rfl, ?_⟩))
      rw [exP_full, exF_full]
      exact ⟨rfl, rfl⟩
abbrev s_Reader_in_parentheses_p5 : Stmt := inClass (top 36) 6
theorem sc_Reader_in_parentheses_p5 : FnScope ["self", "room", "found", "depth"] ["self", "room"] (defScope s_Reader_in_parentheses_p5) := ⟨rfl, rfl, rfl, by decide +kernel, rfl, by decide +kernel, by decide +kernel⟩
theorem ok_Reader_in_parentheses_p5 {f : Addr} {fd : FuncData} (F : Fun K "_in_parentheses" "Reader._in_parentheses" s_Reader_in_parentheses_p5 f fd) (B : Bt mg) (KC : Kt K mg) (KL : Lt K mg) (WD : Zdt K w mg) (G_Reader_chain_p5 : FnML P w K mg base "Reader" "_chain" 14 R_Reader_chain_p5) (G_Reader_read_word : FnML P w K mg base "Reader" "_read_word" 2 R_Reader_read_word) :
    FnOk P w K mg base CX0 15 f fd ["self", "room"] (spL K R_Reader_in_parentheses_p5) := by
  refine fn_okL (k := 14) F sc_Reader_in_parentheses_p5 (fun a cs ds Ψ h => by cases h; rfl) fun a0 cs0 ds Ψ hR cdv A outer s H E hr => ?_
  have nd := sc_Reader_in_parentheses_p5.nd
  have hu := hr.units
  rcases hR with ⟨W, L, ln, i, x, S, room, hT, hW, hL, hx, hd⟩
  have hpos := exL_pos hT
  have hda := exA_dep x
  have hw := wAt_hd (drop_app hW)
  walk_at "en"
  refine ws_cons (ws_unpackP (ep_methW 0 G_Reader_chain_p5 (hr.mono (by decide)) rfl (List.mem_iff_getElem?.mpr ⟨0, rfl⟩) (ed_varX 0 rfl) (ad_cons (ed_var 1 rfl) ad_nil) (.mk a0 W L ln i x ((")" : Str) :: S) room hW (stop_par S) hL hx (by omega) (fun p hp => by have := (exL_ok x hx p hp).2; omega))) ?_)
  rintro _ _ ⟨_, ⟨rfl, rfl⟩, rfl⟩
  refine ⟨_, _, dg_tup rfl (dgs_cons (dg_name 2 nd) (dgs_cons (dg_name 3 nd) dgs_nil)), ?_⟩
  walk_at "env"
  refine ws_cons (ws_ifP (tp_or2 (TD.eq (td_cmp (ed_ix (ED.eq (ed_var 2 rfl) (ex_hd x)) ed_int IX.t0) (ed_const KC.«PAIRING» (by rfl)) (c2_notInStr (ys := opL4) (.tup _)) (by rfl)) (by rw [ex_inP, hT]; rfl)) (tp_cmpL (d1 := .str (wAtI W (i + (exW x).length))) (ρ2 := [Sl.ox (rdCs a0 W L ln (i + (exW x).length + 1)) (.ad a0), .sh (.int (room : Int)), .sh x.e, .sh (.int (x.dep : Int))]) (ep_meth0W 0 G_Reader_read_word (hr.mono (by decide)) rfl (List.mem_iff_getElem?.mpr ⟨0, rfl⟩) (ed_varX 0 rfl) (.mk a0 W L ln (i + (exW x).length))) (by rintro _ _ ⟨_, ⟨rfl, rfl⟩, rfl⟩; exact ⟨rfl, rfl⟩) ed_str c2_neS (by rfl))) ?_ ?_)
  · rintro _ ⟨h9, rfl⟩
    exfalso; rw [hw.1] at h9; revert h9; decide +kernel
  rintro _ ⟨_, rfl⟩
  refine ws_nil ?_
  refine ws_cons (ws_retC 0 (ed_tup (ad_cons (ed_var 2 rfl) (ad_cons (ed_var 3 rfl) ad_nil))) rfl (Or.inl ⟨_, _, rfl, ?_⟩))
  exact ⟨rfl, rfl⟩
abbrev s_Reader_part_p5 : Stmt := inClass (top 36) 5
theorem sc_Reader_part_p5 : FnScope ["self", "room", "word", "n", "inner", "depth"] ["self", "room"] (defScope s_Reader_part_p5) := ⟨rfl, rfl, rfl, by decide +kernel, rfl, by decide +kernel, by decide +kernel⟩
theorem ok_Reader_part_p5 {f : Addr} {fd : FuncData} (F : Fun K "_part" "Reader._part" s_Reader_part_p5 f fd) (B : Bt mg) (KC : Kt K mg) (KL : Lt K mg) (WD : Zdt K w mg) (G_Reader_in_parentheses_p5 : FnML P w K mg base "Reader" "_in_parentheses" 15 R_Reader_in_parentheses_p5) (G_Reader_part_p4 : FnML P w K mg base "Reader" "_part" 13 R_Reader_part_p4) (G_Reader_read_word : FnML P w K mg base "Reader" "_read_word" 2 R_Reader_read_word) (G_Reader_size : FnML P w K mg base "Reader" "_size" 3 R_Reader_size) :
    FnOk P w K mg base CX0 16 f fd ["self", "room"] (spL K R_Reader_part_p5) := by
  refine fn_okL (k := 15) F sc_Reader_part_p5 (fun a cs ds Ψ h => by cases h; rfl) fun a0 cs0 ds Ψ hR cdv A outer s H E hr => ?_
  have nd := sc_Reader_part_p5.nd
  have hu := hr.units
  rcases hR with ⟨W, L, ln, i, x, S, room, hW, hL, hx, hd⟩
  have hrm := okE_room hx
  walk_at "en"
  rcases x with n | ⟨o, l, r⟩ | ⟨o, n, y⟩
  · skip
    have hw := wAt_hd (w := n) (r := S) (by rw [hW, ptW_f rfl]; rfl)
    obtain ⟨l1, l2, l3⟩ := lay_lem hL hx
    refine ws_cons (ws_setP 2 nd (ep_meth0W 0 G_Reader_read_word (hr.mono (by decide)) rfl (List.mem_iff_getElem?.mpr ⟨0, rfl⟩) (ed_varX 0 rfl) (.mk a0 W L ln i)) ?_)
    rintro _ _ ⟨_, ⟨rfl, rfl⟩, rfl⟩
    walk_at "env"
    rw [hw.1]
    refine ws_cons (ws_if (td_cmp (ed_var 1 rfl) ed_int (by walk_at "c2")) (fun hc1 => ?_) (fun hc1 => ?_))
    · skip
      exfalso; have h9 := of_decide_eq_true hc1; omega
    · skip
      clear hc1
      refine ws_nil ?_
      refine ws_cons (ws_if (TD.eq (td_cmp (ed_var 2 rfl) ed_str c2_eqS (by rfl)) l1) (fun hc2 => ?_) (fun hc2 => ?_))
      · skip
        cases hc2
      · skip
        clear hc2
        refine ws_nil ?_
        refine ws_cons (ws_if (TD.eq (td_cmp (ed_var 2 rfl) (ed_const KC.«SIZING» (by rfl)) (c2_inStr (ys := opL3) (.tup _)) (by rfl)) l2) (fun hc3 => ?_) (fun hc3 => ?_))
        · skip
          cases hc3
        · skip
          clear hc3
          refine ws_nil ?_
          refine ws_cons (ws_if (TD.eq (td_cmp (ed_var 2 rfl) (ed_fldC 0 1 KL.«Reader» rfl (List.mem_iff_getElem?.mpr ⟨0, rfl⟩) (ed_varX 0 rfl)) (c2_notInStr (ys := L) (.tup _)) (by rfl)) (show (!decide (n ∈ L)) = false by rw [l3]; rfl)) (fun hc4 => ?_) (fun hc4 => ?_))
          · skip
            cases hc4
          · skip
            clear hc4
            refine ws_nil ?_
            refine ws_cons (ws_retC 0 (ed_tup (ad_cons (ed_tup (ad_cons ed_str (ad_cons (ed_var 2 rfl) ad_nil))) (ad_cons ed_int ad_nil))) rfl (Or.inl ⟨_, _, rfl, ?_⟩))
            exact ⟨rfl, rfl⟩
  · skip
    have hw := wAt_hd (w := "(") (r := exW (Ex.two o l r) ++ (")" : Str) :: S) (by rw [hW, ptW_t rfl]; simp)
    refine ws_cons (ws_setP 2 nd (ep_meth0W 0 G_Reader_read_word (hr.mono (by decide)) rfl (List.mem_iff_getElem?.mpr ⟨0, rfl⟩) (ed_varX 0 rfl) (.mk a0 W L ln i)) ?_)
    rintro _ _ ⟨_, ⟨rfl, rfl⟩, rfl⟩
    walk_at "env"
    rw [hw.1]
    refine ws_cons (ws_if (td_cmp (ed_var 1 rfl) ed_int (by walk_at "c2")) (fun hc5 => ?_) (fun hc5 => ?_))
    · skip
      exfalso; have h9 := of_decide_eq_true hc5; omega
    · skip
      clear hc5
      refine ws_nil ?_
      refine ws_cons (ws_if (TD.eq (td_cmp (ed_var 2 rfl) ed_str c2_eqS (by rfl)) (decide_eq_true rfl)) (fun hc6 => ?_) (fun hc6 => ?_))
      · skip
        clear hc6
        refine ws_cons (ws_retCP 0 (ep_methW 0 G_Reader_in_parentheses_p5 (hr.mono (by decide)) rfl (List.mem_iff_getElem?.mpr ⟨0, rfl⟩) (ed_varX 0 rfl) (ad_cons (ed_var 1 rfl) ad_nil) (.mk a0 W L ln (i + 1) (Ex.two o l r) S room rfl hw.2.2 hL hx hd)) ?_)
        rintro _ _ ⟨_, ⟨rfl, rfl⟩, rfl⟩
        exact ⟨_, _, rfl, Or.inl ⟨_, _, rfl, congrArg (rdCs a0 W L ln) (by rw [ptW_t (x := Ex.two o l r) rfl, List.length_cons, List.length_append, List.length_cons, List.length_nil]; omega), rfl⟩⟩
      · skip
        cases hc6
  · skip
    obtain ⟨hsz, hy⟩ := siz_lem hx
    have hdy : y.dep ≤ 4 := by unfold Ex.dep at hd; omega
    have hw := wAt_hd (w := opS o) (r := stI n :: (ptW y ++ S)) (by rw [hW, ptW_f rfl, exW_siz]; rfl)
    have hw2 := wAt_hd hw.2.2
    refine ws_cons (ws_setP 2 nd (ep_meth0W 0 G_Reader_read_word (hr.mono (by decide)) rfl (List.mem_iff_getElem?.mpr ⟨0, rfl⟩) (ed_varX 0 rfl) (.mk a0 W L ln i)) ?_)
    rintro _ _ ⟨_, ⟨rfl, rfl⟩, rfl⟩
    walk_at "env"
    rw [hw.1]
    refine ws_cons (ws_if (td_cmp (ed_var 1 rfl) ed_int (by walk_at "c2")) (fun hc7 => ?_) (fun hc7 => ?_))
    · skip
      exfalso; have h9 := of_decide_eq_true hc7; omega
    · skip
      clear hc7
      refine ws_nil ?_
      refine ws_cons (ws_if (TD.eq (td_cmp (ed_var 2 rfl) ed_str c2_eqS (by rfl)) (kw_par.1 o)) (fun hc8 => ?_) (fun hc8 => ?_))
      · skip
        cases hc8
      · skip
        clear hc8
        refine ws_nil ?_
        refine ws_cons (ws_if (TD.eq (td_cmp (ed_var 2 rfl) (ed_const KC.«SIZING» (by rfl)) (c2_inStr (ys := opL3) (.tup _)) (by rfl)) (opS_in o)) (fun hc9 => ?_) (fun hc9 => ?_))
        · skip
          clear hc9
          refine ws_cons (ws_setP 3 nd (ep_methW 0 G_Reader_size (hr.mono (by decide)) rfl (List.mem_iff_getElem?.mpr ⟨0, rfl⟩) (ed_varX 0 rfl) (ad_cons (ed_var 2 rfl) ad_nil) (.mk a0 W L ln (i + 1) o n hw2.1 hsz)) ?_)
          rintro _ _ ⟨_, ⟨rfl, rfl⟩, rfl⟩
          walk_at "env"
          refine ws_cons (ws_unpackP (ep_methW 0 G_Reader_part_p4 (hr.mono (by decide)) rfl (List.mem_iff_getElem?.mpr ⟨0, rfl⟩) (ed_varX 0 rfl) (ad_cons (ED.eq (ed_bin (ed_var 1 rfl) ed_int (by walk_at "b2")) (show _ = D.int ((room - 1 : Nat) : Int) from congrArg D.int (by omega))) ad_nil) (.mk a0 W L ln (i + 1 + 1) y S (room - 1) hw2.2.2 hL hy hdy)) ?_)
          rintro _ _ ⟨_, ⟨rfl, rfl⟩, rfl⟩
          refine ⟨_, _, dg_tup rfl (dgs_cons (dg_name 4 nd) (dgs_cons (dg_name 5 nd) dgs_nil)), ?_⟩
          walk_at "env"
          refine ws_cons (ws_retC 0 (ed_tup (ad_cons (ed_tup (ad_cons (ed_var 2 rfl) (ad_cons (ed_var 3 rfl) (ad_cons (ed_var 4 rfl) ad_nil)))) (ad_cons (ed_bin (ed_var 5 rfl) ed_int (by walk_at "b2")) ad_nil))) rfl (Or.inl ⟨_, _, rfl, ?_⟩))
          exact ⟨congrArg (rdCs a0 W L ln) (by rw [ptW_f (x := Ex.siz o n y) rfl, exW_siz, List.length_cons, List.length_cons]; omega), congrArg (fun z : Int => D.tup [(Ex.siz o n y).e, .int z]) (show ((y.dep : Int) + 1) = ((y.dep + 1 : Nat) : Int) by omega)⟩
        · skip
          cases hc9
abbrev s_Reader_chain_p6 : Stmt := inClass (top 36) 4
theorem sc_Reader_chain_p6 : FnScope ["self", "room", "found", "depth", "operation", "right", "right_depth"] ["self", "room"] (defScope s_Reader_chain_p6) := ⟨rfl, rfl, rfl, by decide +kernel, rfl, by decide +kernel, by decide +kernel⟩
theorem ok_Reader_chain_p6 {f : Addr} {fd : FuncData} (F : Fun K "_chain" "Reader._chain" s_Reader_chain_p6 f fd) (B : Bt mg) (KC : Kt K mg) (KL : Lt K mg) (WD : Zdt K w mg) (G_Reader_next_word : FnM P w K mg base "Reader" "_next_word" 1 R_Reader_next_word) (G_Reader_part_p5 : FnML P w K mg base "Reader" "_part" 16 R_Reader_part_p5) (G_Reader_read_word : FnML P w K mg base "Reader" "_read_word" 2 R_Reader_read_word) :
    FnOk P w K mg base CX0 17 f fd ["self", "room"] (spL K R_Reader_chain_p6) := by
  refine fn_okL (k := 16) F sc_Reader_chain_p6 (fun a cs ds Ψ h => by cases h; rfl) fun a0 cs0 ds Ψ hR cdv A outer s H E hr => ?_
  have nd := sc_Reader_chain_p6.nd
  have hu := hr.units
  rcases hR with ⟨W, L, ln, i, x, S, room, hW, st, hL, hx, hA, hP⟩
  have hrm := okE_room hx
  obtain ⟨w0, r0, hex, hhd⟩ := ex_head hL hx
  have hfw := wAt_hd (W := W) (i := i) (w := w0) (r := r0 ++ ((exL x).flatMap opW ++ S)) (by rw [hW, sp_words x, hex]; simp)
  have hdr := okE_dep hx
  walk_at "en"
  refine ws_cons (ws_if (td_show 0 (rdO W L ln i) rfl (fun _ _ v h r => rd_show v h r) (td_cmp (ed_meth0 G_Reader_next_word (hr.mono (by decide)) (ed_var 0 rfl) (by first | exact .mk W L ln i | exact .mk W L ln (i + exP x gw0))) ed_str c2_eqS (by rfl))) (fun hc1 => ?_) (fun hc1 => ?_))
  · skip
    exfalso; rw [hfw.1, hhd] at hc1; cases hc1
  · skip
    clear hc1
    refine ws_nil ?_
    refine ws_cons (ws_unpackP (ep_methW 0 G_Reader_part_p5 (hr.mono (by decide)) rfl (List.mem_iff_getElem?.mpr ⟨0, rfl⟩) (ed_varX 0 rfl) (ad_cons (ed_var 1 rfl) ad_nil) (.mk a0 W L ln i (exA x) ((exL x).flatMap opW ++ S) room (by rw [hW, sp_words x, ptW_f (exA_not x), List.append_assoc]) hL (exA_ok x hx) hA)) ?_)
    rintro _ _ ⟨_, ⟨rfl, rfl⟩, rfl⟩
    refine ⟨_, _, dg_tup rfl (dgs_cons (dg_name 2 nd) (dgs_cons (dg_name 3 nd) dgs_nil)), ?_⟩
    walk_at "env"
    rw [ptW_f (exA_not x), ← exP_zero x, ← exF_zero x]
    refine ws_cons (ws_whileU (γ := Nat) (U := Sl × Sl × Sl) (fun g u => [(0, .ox (rdCs a0 W L ln (i + exP x g)) (.ad a0)), (2, .sh (exF x g).e), (3, .sh (.int ((exF x g).dep : Int))), (4, u.1), (5, u.2.1), (6, u.2.2)]) (fun r => (r.getD 4 .no, r.getD 5 .no, r.getD 6 .no)) (fun g => g ≤ (exL x).length) (fun g => (exL x).length - g) (0) (rfl) (Nat.zero_le _) ?_)
    intro gw0 uw0 hW0
    walk_at "env"
    refine ⟨_, (td_show 0 (rdO W L ln (i + exP x gw0)) rfl (fun _ _ v h r => rd_show v h r) (td_cmp (ed_meth0 G_Reader_next_word (hr.mono (by decide)) (ed_var 0 rfl) (by first | exact .mk W L ln i | exact .mk W L ln (i + exP x gw0))) (ed_const KC.«PAIRING» (by rfl)) (c2_inStr (ys := opL4) (.tup _)) (by rfl))), fun hw0 => ?_, fun hw0 => ?_⟩
    · skip
      have hlt9 : gw0 < (exL x).length := by
        rcases Nat.lt_or_eq_of_le hW0 with q | q
        · exact q
        · exfalso; rw [q, stop_at (sp_end hW) st] at hw0; cases hw0
      have hn9 := sp_next hW hlt9
      have hp9 : (exL x)[gw0]? = some (exL x)[gw0] := List.getElem?_eq_getElem hlt9
      obtain ⟨p9, hp8⟩ : ∃ p, p = (exL x)[gw0] := ⟨_, rfl⟩
      rw [← hp8] at hn9 hp9
      have hm9 := List.mem_of_getElem? hp9
      have hw9 := wAt_hd hn9
      refine ws_cons (ws_setP 4 nd (ep_meth0W 0 G_Reader_read_word (hr.mono (by decide)) rfl (List.mem_iff_getElem?.mpr ⟨0, rfl⟩) (ed_varX 0 rfl) (.mk a0 W L ln (i + exP x gw0))) ?_)
      rintro _ _ ⟨_, ⟨rfl, rfl⟩, rfl⟩
      walk_at "env"
      rw [hw9.1]
      refine ws_cons (ws_unpackP (ep_methW 0 G_Reader_part_p5 (hr.mono (by decide)) rfl (List.mem_iff_getElem?.mpr ⟨0, rfl⟩) (ed_varX 0 rfl) (ad_cons (ED.eq (ed_bin (ed_var 1 rfl) ed_int (by walk_at "b2")) (show _ = D.int ((room - 1 : Nat) : Int) from congrArg D.int (by omega))) ad_nil) (.mk a0 W L ln (i + exP x gw0 + 1) p9.2 (((exL x).drop (gw0 + 1)).flatMap opW ++ S) (room - 1) hw9.2.2 hL (exL_ok x hx p9 hm9).1 (hP p9 hm9))) ?_)
      rintro _ _ ⟨_, ⟨rfl, rfl⟩, rfl⟩
      refine ⟨_, _, dg_tup rfl (dgs_cons (dg_name 5 nd) (dgs_cons (dg_name 6 nd) dgs_nil)), ?_⟩
      walk_at "env"
      refine ws_cons (ws_set 2 nd (ed_tup (ad_cons (ed_var 4 rfl) (ad_cons (ed_var 2 rfl) (ad_cons (ed_var 5 rfl) ad_nil)))) ?_)
      walk_at "env"
      refine ws_cons (ws_set 3 nd (ed_bin ed_int (ed_callB (id := "max") (by rfl) B.«max» bb_max (ad_cons (ed_var 3 rfl) (ad_cons (ed_var 6 rfl) ad_nil)) (bc_max2 rfl)) (by walk_at "b2")) ?_)
      walk_at "env"
      refine ws_cons (ws_if (td_cmp (ed_var 3 rfl) (ed_var 1 rfl) (by walk_at "c2")) (fun hc3 => ?_) (fun hc3 => ?_))
      · skip
        exfalso; have h9 := of_decide_eq_true hc3; have h8 : max (exF x gw0).dep p9.2.dep + 1 ≤ x.dep := by have h7 := exF_dep x (gw0 + 1); rw [exF_succ hp9] at h7; exact h7
        omega
      · skip
        clear hc3
        refine ws_nil ?_
        refine ws_nil ?_
        refine ⟨gw0 + 1, ?_, by omega, by omega⟩
        rw [exF_succ hp9, exP_succ hp9, show i + (exP x gw0 + 1 + (ptW p9.2).length) = i + exP x gw0 + 1 + (ptW p9.2).length by omega, show ((Ex.two p9.1 (exF x gw0) p9.2).dep : Int) = 1 + max ((exF x gw0).dep : Int) (p9.2.dep : Int) by show ((max (exF x gw0).dep p9.2.dep + 1 : Nat) : Int) = _; omega]
        rfl
    · skip
      have hend9 : gw0 = (exL x).length := by
        rcases Nat.lt_or_eq_of_le hW0 with q | q
        · exfalso; rw [(wAt_hd (sp_next hW q)).1, opP_in] at hw0; cases hw0
        · exact q
      subst hend9
      refine ws_cons (ws_retC 0 (ed_tup (ad_cons (ed_var 2 rfl) (ad_cons (ed_var 3 rfl) ad_nil))) rfl (Or.inl ⟨_, _, rfl, ?_⟩))
      rw [exP_full, exF_full]
      exact ⟨rfl, rfl⟩
abbrev s_Reader_size : Stmt := inClass (top 36) 7
theorem sc_Reader_size : FnScope ["self", "operation", "numbers"] ["self", "operation"] (defScope s_Reader_size) := ⟨rfl, rfl, rfl, by decide +kernel, rfl, by decide +kernel, by decide +kernel⟩
theorem ok_Reader_size {f : Addr} {fd : FuncData} (F : Fun K "_size" "Reader._size" s_Reader_size f fd) (B : Bt mg) (KC : Kt K mg) (KL : Lt K mg) (WD : Zdt K w mg) (G_Reader_read_word : FnML P w K mg base "Reader" "_read_word" 2 R_Reader_read_word) (G_is_size : Fn P w K mg base "is_size" 1 R_is_size) (G_read_integers : Fn P w K mg base "read_integers" 2 R_read_integers) :
    FnOk P w K mg base CX0 3 f fd ["self", "operation"] (spL K R_Reader_size) := by
  refine fn_okL (k := 2) F sc_Reader_size (fun a cs ds Ψ h => by cases h; rfl) fun a0 cs0 ds Ψ hR cdv A outer s H E hr => ?_
  have nd := sc_Reader_size.nd
  have hu := hr.units
  rcases hR with ⟨W, L, ln, i, o, n, hw, hz⟩
  walk_at "en"
  refine ws_cons (ws_setP 2 nd (ep_callL1 G_read_integers (hr.mono (by decide)) (by rfl) (Ψ2 := fun d ρ9 => d = .tup [.int n] ∧ ρ9 = [Sl.ox (rdCs a0 W L ln (i + 1)) (.ad a0), .sh (.str (opS o)), .no]) (ep_meth0W 0 G_Reader_read_word (hr.mono (by decide)) rfl (List.mem_iff_getElem?.mpr ⟨0, rfl⟩) (ed_varX 0 rfl) (.mk a0 W L ln i)) (by rintro _ _ ⟨_, ⟨rfl, rfl⟩, rfl⟩; exact ⟨_, (show R_read_integers [.lst [.str (wAtI W i)]] _ by rw [hw]; exact .mk [n] (fun j hj => by rw [List.mem_singleton.mp hj]; exact szE_rz hz) (by simp)), rfl, rfl⟩)) ?_)
  rintro _ _ ⟨rfl, rfl⟩
  walk_at "env"
  refine ws_cons (ws_if (td_tw (tw_or (td_cmp (ed_var 2 rfl) ed_non (by walk_at "c2")) (fun hb2 => (tw_or1 (td_not (td_truth (ed_call G_is_size (hr.mono (by decide)) (by rfl) (ad_cons (ed_var 1 rfl) (ad_cons (ed_ix (ed_var 2 rfl) ed_int IX.t0) ad_nil)) (by exact .mk _ _)) rfl)))))) (fun hc1 => ?_) (fun hc1 => ?_))
  · skip
    exfalso; rw [hz] at hc1; simp [isNon] at hc1
  · skip
    clear hc1
    refine ws_nil ?_
    refine ws_cons (ws_retC 0 (ed_ix (ed_var 2 rfl) ed_int IX.t0) rfl (Or.inl ⟨_, _, rfl, ?_⟩))
    exact ⟨rfl, rfl⟩
abbrev s_read_definition : Stmt := top 37
theorem sc_read_definition : FnScope ["words", "layers", "line"] ["words", "layers", "line"] (defScope s_read_definition) := ⟨rfl, rfl, rfl, by decide +kernel, rfl, by decide +kernel, by decide +kernel⟩
theorem ok_read_definition {f : Addr} {fd : FuncData} (F : Fun K "read_definition" "read_definition" s_read_definition f fd) (B : Bt mg) (KC : Kt K mg) (KL : Lt K mg) (WD : Zdt K w mg) (G_Reader_init : FnIL P w K mg base "Reader" 1 R_Reader_init) (G_Reader_read_all : FnML P w K mg base "Reader" "read_all" 18 R_Reader_read_all) (G_is_new_layer : Fn P w K mg base "is_new_layer" 2 R_is_new_layer) :
    FnOk P w K mg base CX0 19 f fd ["words", "layers", "line"] (spR K R_read_definition) := by
  refine fn_ok (k := 18) F sc_read_definition (fun ds d h => by cases h <;> rfl) fun ds d hR cdv A outer s H E hr => ?_
  have nd := sc_read_definition.nd
  have hu := hr.units
  rcases hR with ⟨L, f, ln, hn, he, hL, hd⟩
  have hnl := nameB_len (newB_iff.mp hn).1
  walk_at "en"
  refine ws_cons (ws_if (td_tw (tw_or (td_not (td_truth (ed_var 0 rfl) rfl)) (fun hb2 => (tw_or1 (td_not (td_truth (ed_call G_is_new_layer (hr.mono (by decide)) (by rfl) (ad_cons (ed_var 1 rfl) (ad_cons (ed_ix (ED.eq (ed_var 0 rfl) (show _ = D.lst (.str f.1 :: (exW f.2).map D.str) from rfl)) ed_int IX.l0) ad_nil)) (by exact .mk L f.1 (by rw [sizeLine_eq]; omega))) rfl)))))) (fun hc1 => ?_) (fun hc1 => ?_))
  · skip
    exfalso; rw [hn] at hc1; simp at hc1
  · skip
    clear hc1
    refine ws_nil ?_
    refine ws_cons (ws_ret (ED.eq (ed_tup (ad_cons (ed_ix (ED.eq (ed_var 0 rfl) (show _ = D.lst (.str f.1 :: (exW f.2).map D.str) from rfl)) ed_int IX.l0) (ad_cons (ed_makeM0 G_Reader_read_all (hr.mono (by decide)) (ec_make G_Reader_init (hr.mono (by decide)) (by rfl) (ad_cons (ED.eq (ed_lst (eo_slice (ed_var 0 rfl) (some_part ed_int) no_part)) (show _ = D.lst ((exW f.2).map D.str) from congrArg D.lst (cutDrop _ (by decide)))) (ad_cons (ed_var 1 rfl) (ad_cons (ed_var 2 rfl) ad_nil))) (fun a => .mk a (exW f.2) L ln)) (by rintro a _ rfl; exact ⟨_, _, _, List.mem_singleton.mpr rfl, by decide +kernel, .mk a (exW f.2) L ln f.2 rfl hL he hd, fun _ _ h => h⟩)) ad_nil))) ?_) (Or.inl rfl))
    rfl
abbrev s_read_rule : Stmt := top 38
theorem sc_read_rule : FnScope ["words", "layers", "line", "first_number", "numbers", "rule"] ["words", "layers", "line"] (defScope s_read_rule) := ⟨rfl, rfl, rfl, by decide +kernel, rfl, by decide +kernel, by decide +kernel⟩
theorem ok_read_rule {f : Addr} {fd : FuncData} (F : Fun K "read_rule" "read_rule" s_read_rule f fd) (B : Bt mg) (KC : Kt K mg) (KL : Lt K mg) (WD : Zdt K w mg) (G_is_rule_over : Fn P w K mg base "is_rule_over" 2 R_is_rule_over) (G_read_integers : Fn P w K mg base "read_integers" 2 R_read_integers) :
    FnOk P w K mg base CX0 3 f fd ["words", "layers", "line"] (spR K R_read_rule) := by
  refine fn_ok (k := 2) F sc_read_rule (fun ds d h => by cases h <;> rfl) fun ds d hR cdv A outer s H E hr => ?_
  have nd := sc_read_rule.nd
  have hu := hr.units
  rcases hR with ⟨L, r, ln, f, ok⟩
  have hfl := form_len f
  have hrl : (ruT r).length = 1 + r.2.1.length + r.2.2.length := by unfold ruT; simp only [List.length_cons, List.length_append, List.length_map]; omega
  walk_at "en"
  refine ws_cons (ws_if (td_tw (tw_or (td_not (td_truth (ed_var 0 rfl) rfl)) (fun hb2 => (tw_or1 (td_notInKd (WD.«LAYER_COUNTS in» _ (lc_mem f)) (by rfl) (ed_ix (ED.eq (ed_var 0 rfl) (show _ = D.lst (.str r.1 :: (r.2.1 ++ r.2.2.map stI).map D.str) from rfl)) ed_int IX.l0)))))) (fun hc1 => ?_) (fun hc1 => ?_))
  · skip
    exfalso; simp [ruT] at hc1
  · skip
    clear hc1
    refine ws_nil ?_
    refine ws_cons (ws_set 3 nd (ed_bin ed_int (ed_kdict (WD.«LAYER_COUNTS».get _ (lc_mem f)) (by rfl) (ed_ix (ED.eq (ed_var 0 rfl) (show _ = D.lst (.str r.1 :: (r.2.1 ++ r.2.2.map stI).map D.str) from rfl)) ed_int IX.l0)) (by walk_at "b2")) ?_)
    walk_at "env"
    refine ws_cons (ws_set 4 nd (ed_call G_read_integers (hr.mono (by decide)) (by rfl) (ad_cons (ED.eq (ed_lst (eo_slice (ed_var 0 rfl) (some_part (ed_var 3 rfl)) no_part)) (show _ = D.lst (r.2.2.map fun i => D.str (stI i)) from congrArg D.lst (ruT_ns r))) ad_nil) (by exact .mk r.2.2 (okRL_parts ok).2 (by omega))) ?_)
    walk_at "env"
    refine ws_cons (ws_if (td_tw (tw_or (td_cmp (ed_callB (id := "len") (by rfl) B.«len» bb_len (ad_cons (ed_var 0 rfl) ad_nil) (by walk_at "bc")) (ed_bin (ed_var 3 rfl) (ed_kdict (WD.«NUMBER_COUNTS».get _ (nc_mem f)) (by rfl) (ed_ix (ED.eq (ed_var 0 rfl) (show _ = D.lst (.str r.1 :: (r.2.1 ++ r.2.2.map stI).map D.str) from rfl)) ed_int IX.l0)) (by walk_at "b2")) (by walk_at "c2")) (fun hb4 => (tw_or1 (td_cmp (ed_var 4 rfl) ed_non (by walk_at "c2")))))) (fun hc3 => ?_) (fun hc3 => ?_))
    · skip
      exfalso; rw [List.length_map, hrl] at hc3; simp [isNon] at hc3
    · skip
      clear hc3
      refine ws_nil ?_
      refine ws_cons (ws_set 5 nd (ED.eq (ed_tup (ad_starL (ED.eq (ed_lst (eo_slice (ed_var 0 rfl) no_part (some_part (ed_var 3 rfl)))) (show _ = D.lst (D.str r.1 :: r.2.1.map D.str) from congrArg D.lst (ruT_ls r))) (ad_star (ed_var 4 rfl) ad_nil)) (by simp only [List.length_append, List.length_cons, List.length_map, List.length_nil]; rw [sizeLine_eq]; omega)) (show _ = ruX r by unfold ruX rDs; simp)) ?_)
      walk_at "env"
      refine ws_cons (ws_if (td_not (td_truth (ed_call G_is_rule_over (hr.mono (by decide)) (by rfl) (ad_cons (ed_var 1 rfl) (ad_cons (ed_var 5 rfl) ad_nil)) (by exact .mk L r.1 r.2.1 r.2.2 f)) rfl)) (fun hc5 => ?_) (fun hc5 => ?_))
      · skip
        exfalso; rw [ok] at hc5; cases hc5
      · skip
        clear hc5
        refine ws_nil ?_
        refine ws_cons (ws_ret (ED.eq (ed_var 5 rfl) ?_) (Or.inl rfl))
        rfl
abbrev s_parse_deck : Stmt := top 39
theorem sc_parse_deck : FnScope ["text", "definitions", "rules", "layers", "lines", "number", "line", "words"] ["text"] (defScope s_parse_deck) := ⟨rfl, rfl, rfl, by decide +kernel, rfl, by decide +kernel, by decide +kernel⟩
theorem ok_parse_deck {f : Addr} {fd : FuncData} (F : Fun K "parse_deck" "parse_deck" s_parse_deck f fd) (B : Bt mg) (KC : Kt K mg) (KL : Lt K mg) (WD : Zdt K w mg) (G_Deck_init : FnI P w K mg base "Deck" 15 R_Deck_init) (G_read_definition : Fn P w K mg base "read_definition" 19 R_read_definition) (G_read_rule : Fn P w K mg base "read_rule" 3 R_read_rule) :
    FnOk P w K mg base CX0 20 f fd ["text"] (spR K R_parse_deck) := by
  refine fn_ok (k := 19) F sc_parse_deck (fun ds d h => by cases h <;> rfl) fun ds d hR cdv A outer s H E hr => ?_
  have nd := sc_parse_deck.nd
  have hu := hr.units
  rcases hR with ⟨F, Q, t⟩
  have hwl := dkW_len F Q
  have hfl6 := t.fl
  have hql6 := t.ql
  have htl := txD_len t.ws (by omega)
  walk_at "en"
  refine ws_cons (ws_setO 1 nd (eo_lst ad_nil) ?_)
  walk_at "env"
  refine ws_cons (ws_setO 2 nd (eo_lst ad_nil) ?_)
  walk_at "env"
  refine ws_cons (ws_setO 3 nd (eo_callT (T := "list") (by rfl) B.«list» bb_list (ad_cons (ed_const KC.«LAYERS» (by rfl)) ad_nil) (by walk_at "bo")) ?_)
  walk_at "env"
  refine ws_cons (ws_set 4 nd (ED.eq (ed_ifv (td_cmp (ed_var 0 rfl) ed_str (by walk_at "c2")) (fun hc1 => (ed_lst (eo_split (ed_var 0 rfl) ed_str (by decide +kernel) (by rw [sizeLine_eq]; omega)))) (fun hc1 => (ed_lst (eo_lst ad_nil)))) (show _ = (D.lst (((dkW F Q).map lnW).map .str)) from by exact txD_if t)) ?_)
  walk_at "env"
  refine ws_cons (ws_forU (List.range ((dkW F Q).length)) (fun (i : Nat) => D.tup [.int (((1 : Nat) : Int) + (i : Int)), .str (lnW ((dkW F Q).getD i []))]) rfl (id_enumS (k := 1) (by rfl) B.«enumerate» (ed_var 4 rfl)) (by exact txD_enum _) (U := Sl × Sl × Sl) (fun i u => [(1, .ow (.lst ((F.take i).map Df.e))), (2, .ow (.lst ((Q.take (i - F.length)).map ruX))), (3, .ow (.lst ((lyN (F.take i)).map .str))), (5, u.1), (6, u.2.1), (7, u.2.2)]) (fun r => (r.getD 5 .no, r.getD 6 .no, r.getD 7 .no)) (fun _ => True) (by rw [Nat.zero_sub]; rfl) (True.intro) ?_ ?_)
  · intro i0 t u0 hx0 hP0
    obtain rfl : i0 = t := by
      obtain ⟨hl, he⟩ := List.getElem?_eq_some_iff.mp hx0
      rw [List.getElem_range] at he; exact he
    have hi0 : i0 < (dkW F Q).length := by have := (List.getElem?_eq_some_iff.mp hx0).1; rwa [List.length_range] at this
    refine ⟨_, _, (dg_tup rfl (dgs_cons (dg_name 5 nd) (dgs_cons (dg_name 6 nd) dgs_nil))), ?_⟩
    walk_at "env"
    rcases dkW_at hi0 with ⟨f, hf9, e9⟩ | ⟨hge, r, hr9, e9⟩
    · skip
      rw [e9]
      have hw := t.dfw hf9
      have hil := (List.getElem?_eq_some_iff.mp hf9).1
      have hg9 := t.ok.df i0 f hil hf9
      have h1 : F.take (i0 + 1) = F.take i0 ++ [f] := by rw [List.take_add_one, hf9]; rfl
      have h2 : Q.take (i0 + 1 - F.length) = [] := by rw [show i0 + 1 - F.length = 0 by omega]; rfl
      have h20 : Q.take (i0 - F.length) = [] := by rw [show i0 - F.length = 0 by omega]; rfl
      have h3 := lyN_take hf9
      rw [h20]
      refine ws_cons (ws_set 7 nd (ED.eq (ed_lst (eo_split (ed_var 6 rfl) ed_str (by decide +kernel) (by have := hw.len; rw [sizeLine_eq]; omega))) (show _ = D.lst ((dfW f).map D.str) by rw [ln_split hw.ne hw.ok])) ?_)
      walk_at "env"
      refine ws_cons (ws_if (td_lend 1 rfl (td_lend 2 rfl (td_tw (tw_and (td_cmp (ed_ix (ED.eq (ed_var 7 rfl) (show _ = D.lst (.str "layer" :: (f.1 :: exW f.2).map D.str) from rfl)) ed_int IX.l0) ed_str (by walk_at "c2")) (fun hb4 => (tw_and (td_not (td_truth (ed_var 2 rfl) rfl)) (fun hb3 => (tw_and1 (td_cmp (ed_callB (id := "len") (by rfl) B.«len» bb_len (ad_cons (ed_var 1 rfl) ad_nil) (by walk_at "bc")) (ed_const KC.«MOST_DEFINITIONS» (by rfl)) (by walk_at "c2")))))))))) (fun hc2 => ?_) (fun hc2 => ?_))
      · skip
        clear hc2
        refine ws_cons (ws_append 1 rfl (ed_lendN 3 rfl (df_noL f) (ed_call G_read_definition (hr.mono (by decide)) (by rfl) (ad_cons (ED.eq (ed_lst (eo_slice (ed_var 7 rfl) (some_part ed_int) no_part)) (show _ = D.lst ((f.1 :: exW f.2).map D.str) from congrArg D.lst (cutDrop _ (by decide)))) (ad_cons (ed_var 3 rfl) (ad_cons (ed_var 5 rfl) ad_nil))) (.mk (lyN (F.take i0)) f _ hg9.n hg9.e (t.ok.lyg i0) (t.dp f (List.mem_of_getElem? hf9))))) (by have h71 := lyN_len (F.take i0); have h72 := lyN_len F; have h73 := List.length_take (i := i0) (l := F); have h74 := List.length_take (i := i0 - F.length) (l := Q); simp only [List.length_map, List.length_append, List.length_cons, List.length_nil]; rw [sizeLine_eq]; omega) ?_ (fun h => ps_expr (pe_bm PySem.F.plainAttrs_list PySem.F.slot_list_append PySem.F.type_list_append mt_append (pv 1) h)))
        walk_at "env"
        refine ws_cons (ws_append 3 rfl (ed_ix (ED.eq (ed_ixO 1 rfl (ed_neg ed_int) (last_app Df.e _ f)) (show _ = D.tup [.str f.1, f.2.e] from rfl)) ed_int IX.t0) (by have h71 := lyN_len (F.take i0); have h72 := lyN_len F; have h73 := List.length_take (i := i0) (l := F); have h74 := List.length_take (i := i0 - F.length) (l := Q); simp only [List.length_map, List.length_append, List.length_cons, List.length_nil]; rw [sizeLine_eq]; omega) ?_ (fun h => ps_expr (pe_bm PySem.F.plainAttrs_list PySem.F.slot_list_append PySem.F.type_list_append mt_append (pv 3) h)))
        walk_at "env"
        refine ws_nil ?_
        refine ws_nil ?_
        refine ⟨?_, True.intro⟩
        first
          | (rw [h3, h2, h1]; simp only [List.map_append]; rfl)
          | (rw [h2, h1]; simp only [List.map_append]; rfl)
      · skip
        exfalso; rw [List.length_map, List.length_take] at hc2; have := t.fl; revert hc2; simp; omega
    · skip
      rw [e9]
      have hrm := List.mem_of_getElem? hr9
      have hw := t.ruw hrm
      have hqi := (List.getElem?_eq_some_iff.mp hr9).1
      have hFt : F.take i0 = F := List.take_of_length_le hge
      have h1 : F.take (i0 + 1) = F := List.take_of_length_le (by omega)
      have h2 : Q.take (i0 + 1 - F.length) = Q.take (i0 - F.length) ++ [r] := by rw [show i0 + 1 - F.length = (i0 - F.length) + 1 by omega, List.take_add_one, hr9]; rfl
      rw [hFt]
      refine ws_cons (ws_set 7 nd (ED.eq (ed_lst (eo_split (ed_var 6 rfl) ed_str (by decide +kernel) (by have := hw.len; rw [sizeLine_eq]; omega))) (show _ = D.lst ((ruW r).map D.str) by rw [ln_split hw.ne hw.ok])) ?_)
      walk_at "env"
      refine ws_cons (ws_if (td_lend 1 rfl (td_lend 2 rfl (td_tw (tw_and (td_cmp (ed_ix (ED.eq (ed_var 7 rfl) (show _ = D.lst (.str "rule" :: (ruT r).map D.str) from rfl)) ed_int IX.l0) ed_str (by walk_at "c2")) (fun hb7 => (tw_and (td_not (td_truth (ed_var 2 rfl) rfl)) (fun hb6 => (tw_and1 (td_cmp (ed_callB (id := "len") (by rfl) B.«len» bb_len (ad_cons (ed_var 1 rfl) ad_nil) (by walk_at "bc")) (ed_const KC.«MOST_DEFINITIONS» (by rfl)) (by walk_at "c2")))))))))) (fun hc5 => ?_) (fun hc5 => ?_))
      · skip
        exfalso; rw [show decide (("rule" : Str) = ("layer" : Str)) = false by decide +kernel] at hc5; simp at hc5
      · skip
        clear hc5
        refine ws_cons (ws_if (td_lend 2 rfl (td_tw (tw_and (td_cmp (ed_ix (ED.eq (ed_var 7 rfl) (show _ = D.lst (.str "rule" :: (ruT r).map D.str) from rfl)) ed_int IX.l0) ed_str (by walk_at "c2")) (fun hb9 => (tw_and1 (td_cmp (ed_callB (id := "len") (by rfl) B.«len» bb_len (ad_cons (ed_var 2 rfl) ad_nil) (by walk_at "bc")) (ed_const KC.«MOST_RULES» (by rfl)) (by walk_at "c2"))))))) (fun hc8 => ?_) (fun hc8 => ?_))
        · skip
          clear hc8
          refine ws_cons (ws_append 2 rfl (ed_lendN 3 rfl (ruX_noL (t.ok.s.fm r hrm)) (ed_call G_read_rule (hr.mono (by decide)) (by rfl) (ad_cons (ED.eq (ed_lst (eo_slice (ed_var 7 rfl) (some_part ed_int) no_part)) (show _ = D.lst ((ruT r).map D.str) from congrArg D.lst (cutDrop _ (by decide)))) (ad_cons (ed_var 3 rfl) (ad_cons (ed_var 5 rfl) ad_nil))) (.mk (lyN F) r _ (t.ok.s.fm r hrm) (t.ok.ru r hrm)))) (by have h71 := lyN_len (F.take i0); have h72 := lyN_len F; have h73 := List.length_take (i := i0) (l := F); have h74 := List.length_take (i := i0 - F.length) (l := Q); simp only [List.length_map, List.length_append, List.length_cons, List.length_nil]; rw [sizeLine_eq]; omega) ?_ (fun h => ps_expr (pe_bm PySem.F.plainAttrs_list PySem.F.slot_list_append PySem.F.type_list_append mt_append (pv 2) h)))
          walk_at "env"
          refine ws_nil ?_
          refine ws_nil ?_
          refine ws_nil ?_
          refine ⟨?_, True.intro⟩
          first
            | (rw [h3, h2, h1]; simp only [List.map_append]; rfl)
            | (rw [h2, h1]; simp only [List.map_append]; rfl)
        · skip
          exfalso; rw [List.length_map, List.length_take] at hc8; have := t.ql; revert hc8; simp; omega
  · intro u0 hP0
    walk_at "env"
    rw [List.length_range, hwl, List.take_of_length_le (show F.length ≤ F.length + Q.length by omega), List.take_of_length_le (show Q.length ≤ F.length + Q.length - F.length by omega)]
    refine ws_share 1 rfl ?_
    walk_at "env"
    refine ws_share 2 rfl ?_
    walk_at "env"
    refine ws_cons (ws_ret (ED.eq (ed_own (eo_make G_Deck_init (hr.mono (by decide)) (by rfl) (ad_cons (ed_var 1 rfl) (ad_cons (ed_var 2 rfl) ad_nil)) (by exact .mk F Q t.ok))) ?_) (Or.inl rfl))
    rfl
abbrev s_law_cell : Stmt := top 41
theorem sc_law_cell : FnScope ["script", "k"] ["script", "k"] (defScope s_law_cell) := ⟨rfl, rfl, rfl, by decide +kernel, rfl, by decide +kernel, by decide +kernel⟩
theorem ok_law_cell {f : Addr} {fd : FuncData} (F : Fun K "_law_cell" "_law_cell" s_law_cell f fd) (B : Bt mg) (KC : Kt K mg) (KL : Lt K mg) (WD : Zdt K w mg)  :
    FnOk P w K mg base CX0 1 f fd ["script", "k"] (spR K R_law_cell) := by
  refine fn_ok (k := 0) F sc_law_cell (fun ds d h => by cases h <;> rfl) fun ds d hR cdv A outer s H E hr => ?_
  have nd := sc_law_cell.nd
  have hu := hr.units
  rcases hR with ⟨ns, k, h0⟩
  walk_at "en"
  refine ws_cons (ws_if (td_cmp (ed_var 1 rfl) (ed_callB (id := "len") (by rfl) B.«len» bb_len (ad_cons (ed_var 0 rfl) ad_nil) (by walk_at "bc")) (by walk_at "c2")) (fun hc1 => ?_) (fun hc1 => ?_))
  · skip
    simp only [decide_eq_true_eq, List.length_map] at hc1
    refine ws_cons (ws_ret (ED.eq (ed_ix (ed_var 0 rfl) (ed_var 1 rfl) (IX.l (at_ints (k := k.toNat) (x := cellAt ns k) (by omega) (by unfold cellAt; simp [show k.toNat < ns.length by omega])))) ?_) (Or.inl rfl))
    rfl
  · skip
    simp only [decide_eq_false_iff_not, List.length_map] at hc1
    refine ws_nil ?_
    refine ws_cons (ws_ret (ED.eq ed_int ?_) (Or.inl rfl))
    unfold cellAt; rw [List.getD_eq_getElem?_getD, List.getElem?_eq_none (by omega)]; rfl
abbrev s_law_draws : Stmt := top 42
theorem sc_law_draws : FnScope ["cell", "count", "rows", "left", "k", "mixed"] ["cell", "count"] (defScope s_law_draws) := ⟨rfl, rfl, rfl, by decide +kernel, rfl, by decide +kernel, by decide +kernel⟩
theorem ok_law_draws {f : Addr} {fd : FuncData} (F : Fun K "_law_draws" "_law_draws" s_law_draws f fd) (B : Bt mg) (KC : Kt K mg) (KL : Lt K mg) (WD : Zdt K w mg)  :
    FnOk P w K mg base CX0 1 f fd ["cell", "count"] (spR K R_law_draws) := by
  refine fn_ok (k := 0) F sc_law_draws (fun ds d h => by cases h <;> rfl) fun ds d hR cdv A outer s H E hr => ?_
  have nd := sc_law_draws.nd
  have hu := hr.units
  rcases hR with ⟨c, n, h0, h1⟩
  walk_at "en"
  refine ws_cons (ws_setO 2 nd (eo_lst ad_nil) ?_)
  walk_at "env"
  refine ws_cons (ws_set 3 nd (ed_var 0 rfl) ?_)
  walk_at "env"
  refine ws_cons (ws_forU (List.range n.toNat) (fun (i : Nat) => D.int (i : Int)) rfl (id_range1 (by rfl) B.«range» (ed_var 1 rfl) (by walk_at "side")) (by exact rngD0 _) (U := Sl × Sl) (fun i u => [(2, .ow (.lst ((drawn c i).1.map D.int))), (3, .sh (.int (drawn c i).2)), (4, u.1), (5, u.2)]) (fun r => (r.getD 4 .no, r.getD 5 .no)) (fun _ => True) (rfl) (True.intro) ?_ ?_)
  · intro i0 t u0 hx0 hP0
    obtain rfl : i0 = t := by
      obtain ⟨hl, he⟩ := List.getElem?_eq_some_iff.mp hx0
      rw [List.getElem_range] at he; exact he
    refine ⟨_, _, (dg_name 4 nd), ?_⟩
    walk_at "env"
    refine ws_cons (ws_if (td_tw (tw_and (td_cmp (ed_var 0 rfl) (ed_bin ed_int ed_int (b2_powL (n := 1000000000000000000) ⟨by decide, by decide, by decide⟩ (by decide))) (by walk_at "c2")) (fun hb2 => (tw_and1 (td_cmp (ed_var 3 rfl) ed_int (by walk_at "c2")))))) (fun hc1 => ?_) (fun hc1 => ?_))
    · skip
      simp only [Bool.and_eq_true, decide_eq_true_eq] at hc1
      have e : drawn c (i0 + 1) = ((drawn c i0).1 ++ [(drawn c i0).2 % 4096], (drawn c i0).2 / 4096) := by
        rw [drawn_succ]; unfold drawStep; rw [if_pos hc1]
      refine ws_cons (ws_append 2 rfl (ed_bin (ed_callT (T := "int") (by rfl) B.«int» bb_int (ad_cons (ed_var 3 rfl) ad_nil) (by walk_at "bc")) ed_int (by walk_at "b2")) (by rw [List.length_map, (draws_spec c i0).1, sizeLine_eq]; have := (List.getElem?_eq_some_iff.mp hx0).1; rw [List.length_range] at this; omega) ?_ (fun h => ps_expr (pe_bm PySem.F.plainAttrs_list PySem.F.slot_list_append PySem.F.type_list_append mt_append (pv 2) h)))
      walk_at "env"
      refine ws_cons (ws_set 3 nd (ed_bin (ed_var 3 rfl) ed_int (by walk_at "b2")) ?_)
      walk_at "env"
      refine ws_nil ?_
      refine ws_nil ?_
      refine ⟨?_, True.intro⟩
      rw [e, List.map_append]
      rfl
    · skip
      have e : drawn c (i0 + 1) = ((drawn c i0).1 ++ [mix3 c i0 / 7 % 4096], (drawn c i0).2) := by
        rw [drawn_succ]; unfold drawStep; rw [if_neg]; intro z; rw [decide_eq_true z.1, decide_eq_true z.2] at hc1; cases hc1
      refine ws_cons (ws_set 5 nd (ed_bin (ed_callT (T := "int") (by rfl) B.«int» bb_int (ad_cons (ed_bin (ed_bin (ed_var 0 rfl) ed_int (by walk_at "b2")) (ed_bin (ed_bin (ed_var 4 rfl) ed_int (by walk_at "b2")) ed_int (by walk_at "b2")) (by walk_at "b2")) ad_nil) (by walk_at "bc")) ed_int (by walk_at "b2")) ?_)
      walk_at "env"
      refine ws_cons (ws_set 5 nd (ed_bin (ed_callT (T := "int") (by rfl) B.«int» bb_int (ad_cons (ed_bin (ed_bin (ed_bin (ed_var 5 rfl) (ed_var 5 rfl) (by walk_at "b2")) (ed_bin (ed_var 5 rfl) ed_int (by walk_at "b2")) (by walk_at "b2")) (ed_bin (ed_var 4 rfl) ed_int (by walk_at "b2")) (by walk_at "b2")) ad_nil) (by walk_at "bc")) ed_int (by walk_at "b2")) ?_)
      walk_at "env"
      refine ws_cons (ws_set 5 nd (ed_bin (ed_callT (T := "int") (by rfl) B.«int» bb_int (ad_cons (ed_bin (ed_bin (ed_bin (ed_var 5 rfl) (ed_var 5 rfl) (by walk_at "b2")) (ed_var 0 rfl) (by walk_at "b2")) (ed_bin ed_int (ed_var 4 rfl) (by walk_at "b2")) (by walk_at "b2")) ad_nil) (by walk_at "bc")) ed_int (by walk_at "b2")) ?_)
      walk_at "env"
      refine ws_cons (ws_append 2 rfl (ed_bin (ed_bin (ed_var 5 rfl) ed_int (by walk_at "b2")) ed_int (by walk_at "b2")) (by rw [List.length_map, (draws_spec c i0).1, sizeLine_eq]; have := (List.getElem?_eq_some_iff.mp hx0).1; rw [List.length_range] at this; omega) ?_ (fun h => ps_expr (pe_bm PySem.F.plainAttrs_list PySem.F.slot_list_append PySem.F.type_list_append mt_append (pv 2) h)))
      walk_at "env"
      refine ws_nil ?_
      refine ws_nil ?_
      refine ⟨?_, True.intro⟩
      rw [e, List.map_append]
      rfl
  · intro u0 hP0
    walk_at "env"
    rw [List.length_range]
    refine ws_share 2 rfl ?_
    refine ws_cons (ws_ret (ED.eq (ed_var 2 rfl) ?_) (Or.inl rfl))
    rfl
abbrev s_law_is_text : Stmt := top 43
theorem sc_law_is_text : FnScope ["x", "due"] ["x", "due"] (defScope s_law_is_text) := ⟨rfl, rfl, rfl, by decide +kernel, rfl, by decide +kernel, by decide +kernel⟩
theorem ok_law_is_text {f : Addr} {fd : FuncData} (F : Fun K "_law_is_text" "_law_is_text" s_law_is_text f fd) (B : Bt mg) (KC : Kt K mg) (KL : Lt K mg) (WD : Zdt K w mg)  :
    FnOk P w K mg base CX0 1 f fd ["x", "due"] (spR K R_law_is_text) := by
  refine fn_ok (k := 0) F sc_law_is_text (fun ds d h => by cases h <;> rfl) fun ds d hR cdv A outer s H E hr => ?_
  have nd := sc_law_is_text.nd
  have hu := hr.units
  rcases hR with ⟨z⟩
  walk_at "en"
  refine ws_cons (ws_ret (ED.eq (ed_and (ed_callB (id := "isinstance") (by rfl) B.«isinstance» bb_isinstance (ad_cons (ed_var 0 rfl) (ad_cons (ed_ty (n := "str") (by rfl) B.«str» bb_str) ad_nil)) (bc_isi (c := "str") (by rfl) (by rfl))) (fun hb1 => (ed_one (ed_cmp (ed_var 0 rfl) (ed_var 1 rfl) (by walk_at "c2"))))) ?_) (Or.inl rfl))
  rw [decide_eq_true (rfl : z = z)]
  rfl
abbrev s_law_layers : Stmt := top 44
theorem sc_law_layers : FnScope [] [] (defScope s_law_layers) := ⟨rfl, rfl, rfl, by decide +kernel, rfl, by decide +kernel, by decide +kernel⟩
theorem ok_law_layers {f : Addr} {fd : FuncData} (F : Fun K "_law_layers" "_law_layers" s_law_layers f fd) (B : Bt mg) (KC : Kt K mg) (KL : Lt K mg) (WD : Zdt K w mg)  :
    FnOk P w K mg base CX0 1 f fd [] (spR K R_law_layers) := by
  refine fn_ok (k := 0) F sc_law_layers (fun ds d h => by cases h <;> rfl) fun ds d hR cdv A outer s H E hr => ?_
  have nd := sc_law_layers.nd
  have hu := hr.units
  cases hR
  walk_at "en"
  refine ws_cons (ws_ret (ED.eq (ED.eq (ed_lst (eo_lst (ad_cons ed_str (ad_cons ed_str (ad_cons ed_str (ad_cons ed_str (ad_cons ed_str (ad_cons ed_str (ad_cons ed_str ad_nil))))))))) (show _ = (D.lst (lays.map .str)) from by rfl)) ?_) (Or.inl rfl))
  rfl
abbrev s_law_name : Stmt := top 45
theorem sc_law_name : FnScope ["draw", "letters", "tail"] ["draw"] (defScope s_law_name) := ⟨rfl, rfl, rfl, by decide +kernel, rfl, by decide +kernel, by decide +kernel⟩
theorem ok_law_name {f : Addr} {fd : FuncData} (F : Fun K "_law_name" "_law_name" s_law_name f fd) (B : Bt mg) (KC : Kt K mg) (KL : Lt K mg) (WD : Zdt K w mg)  :
    FnOk P w K mg base CX0 1 f fd ["draw"] (spR K R_law_name) := by
  refine fn_ok (k := 0) F sc_law_name (fun ds d h => by cases h <;> rfl) fun ds d hR cdv A outer s H E hr => ?_
  have nd := sc_law_name.nd
  have hu := hr.units
  rcases hR with ⟨d, hd⟩
  walk_at "en"
  refine ws_cons (ws_set 1 nd ed_str ?_)
  walk_at "env"
  refine ws_cons (ws_setO 2 nd (eo_lst (ad_cons ed_str (ad_cons ed_str (ad_cons ed_str (ad_cons ed_str (ad_cons ed_str (ad_cons ed_str ad_nil))))))) ?_)
  refine ws_share 2 rfl ?_
  walk_at "env"
  refine ws_cons (ws_ret (ED.eq (ed_bin (ed_ixS (ed_var 1 rfl) (ed_bin (ed_var 0 rfl) ed_int (by walk_at "b2")) (by decide +kernel) (at_ltr (by omega) (by omega))) (ed_ix (ed_var 2 rfl) (ed_bin (ed_bin (ed_var 0 rfl) ed_int (by walk_at "b2")) ed_int (by walk_at "b2")) (.l (at_tls (by omega) (by omega)))) (b2_addS (by have := tls_len (d / 26 % 6).toNat; rw [sizeLine_eq]; show 1 + _ ≤ _; omega))) ?_) (Or.inl rfl))
  rfl
abbrev s_law_like_int : Stmt := top 46
theorem sc_law_like_int : FnScope ["actual", "due", "k"] ["actual", "due"] (defScope s_law_like_int) := ⟨rfl, rfl, rfl, by decide +kernel, rfl, by decide +kernel, by decide +kernel⟩
theorem ok_law_like_int {f : Addr} {fd : FuncData} (F : Fun K "_law_like" "_law_like" s_law_like_int f fd) (B : Bt mg) (KC : Kt K mg) (KL : Lt K mg) (WD : Zdt K w mg)  :
    FnOk P w K mg base CX0 1 f fd ["actual", "due"] (spR K R_law_like_int) := by
  refine fn_ok (k := 0) F sc_law_like_int (fun ds d h => by cases h <;> rfl) fun ds d hR cdv A outer s H E hr => ?_
  have nd := sc_law_like_int.nd
  have hu := hr.units
  rcases hR with ⟨i⟩
  walk_at "en"
  refine ws_cons (ws_if (td_cmp (ed_var 1 rfl) ed_non (by walk_at "c2")) (fun hc1 => ?_) (fun hc1 => ?_))
  · skip
    cases hc1
  · skip
    clear hc1
    refine ws_nil ?_
    refine ws_cons (ws_if (td_truth (ed_callB (id := "isinstance") (by rfl) B.«isinstance» bb_isinstance (ad_cons (ed_var 1 rfl) (ad_cons (ed_ty (n := "bool") (by rfl) B.«bool» bb_bool) ad_nil)) (bc_isi (c := "bool") (by rfl) (by rfl))) rfl) (fun hc2 => ?_) (fun hc2 => ?_))
    · skip
      cases hc2
    · skip
      clear hc2
      refine ws_nil ?_
      refine ws_cons (ws_if (td_truth (ed_callB (id := "isinstance") (by rfl) B.«isinstance» bb_isinstance (ad_cons (ed_var 1 rfl) (ad_cons (ed_ty (n := "str") (by rfl) B.«str» bb_str) ad_nil)) (bc_isi (c := "str") (by rfl) (by rfl))) rfl) (fun hc3 => ?_) (fun hc3 => ?_))
      · skip
        cases hc3
      · skip
        clear hc3
        refine ws_nil ?_
        refine ws_cons (ws_if (td_truth (ed_callB (id := "isinstance") (by rfl) B.«isinstance» bb_isinstance (ad_cons (ed_var 1 rfl) (ad_cons (ed_ty (n := "int") (by rfl) B.«int» bb_int) ad_nil)) (bc_isi (c := "int") (by rfl) (by rfl))) rfl) (fun hc4 => ?_) (fun hc4 => ?_))
        · skip
          clear hc4
          refine ws_cons (ws_ret (ED.eq (ed_and (ed_callB (id := "isinstance") (by rfl) B.«isinstance» bb_isinstance (ad_cons (ed_var 0 rfl) (ad_cons (ed_ty (n := "int") (by rfl) B.«int» bb_int) ad_nil)) (bc_isi (c := "int") (by rfl) (by rfl))) (fun hb6 => (ed_and (ed_not (ed_callB (id := "isinstance") (by rfl) B.«isinstance» bb_isinstance (ad_cons (ed_var 0 rfl) (ad_cons (ed_ty (n := "bool") (by rfl) B.«bool» bb_bool) ad_nil)) (bc_isi (c := "bool") (by rfl) (by rfl)))) (fun hb5 => (ed_one (ed_cmp (ed_var 0 rfl) (ed_var 1 rfl) (by walk_at "c2"))))))) ?_) (Or.inl rfl))
          rw [decide_eq_true (rfl : i = i)]
          rfl
        · skip
          cases hc4
abbrev s_law_like_str : Stmt := top 46
theorem sc_law_like_str : FnScope ["actual", "due", "k"] ["actual", "due"] (defScope s_law_like_str) := ⟨rfl, rfl, rfl, by decide +kernel, rfl, by decide +kernel, by decide +kernel⟩
theorem ok_law_like_str {f : Addr} {fd : FuncData} (F : Fun K "_law_like" "_law_like" s_law_like_str f fd) (B : Bt mg) (KC : Kt K mg) (KL : Lt K mg) (WD : Zdt K w mg)  :
    FnOk P w K mg base CX0 2 f fd ["actual", "due"] (spR K R_law_like_str) := by
  refine fn_ok (k := 1) F sc_law_like_str (fun ds d h => by cases h <;> rfl) fun ds d hR cdv A outer s H E hr => ?_
  have nd := sc_law_like_str.nd
  have hu := hr.units
  rcases hR with ⟨z⟩
  walk_at "en"
  refine ws_cons (ws_if (td_cmp (ed_var 1 rfl) ed_non (by walk_at "c2")) (fun hc1 => ?_) (fun hc1 => ?_))
  · skip
    cases hc1
  · skip
    clear hc1
    refine ws_nil ?_
    refine ws_cons (ws_if (td_truth (ed_callB (id := "isinstance") (by rfl) B.«isinstance» bb_isinstance (ad_cons (ed_var 1 rfl) (ad_cons (ed_ty (n := "bool") (by rfl) B.«bool» bb_bool) ad_nil)) (bc_isi (c := "bool") (by rfl) (by rfl))) rfl) (fun hc2 => ?_) (fun hc2 => ?_))
    · skip
      cases hc2
    · skip
      clear hc2
      refine ws_nil ?_
      refine ws_cons (ws_if (td_truth (ed_callB (id := "isinstance") (by rfl) B.«isinstance» bb_isinstance (ad_cons (ed_var 1 rfl) (ad_cons (ed_ty (n := "str") (by rfl) B.«str» bb_str) ad_nil)) (bc_isi (c := "str") (by rfl) (by rfl))) rfl) (fun hc3 => ?_) (fun hc3 => ?_))
      · skip
        clear hc3
        refine ws_cons (ws_ret (ED.eq (ed_and (ed_callB (id := "isinstance") (by rfl) B.«isinstance» bb_isinstance (ad_cons (ed_var 0 rfl) (ad_cons (ed_ty (n := "str") (by rfl) B.«str» bb_str) ad_nil)) (bc_isi (c := "str") (by rfl) (by rfl))) (fun hb4 => (ed_one (ed_cmp (ed_var 0 rfl) (ed_var 1 rfl) (by walk_at "c2"))))) ?_) (Or.inl rfl))
        rw [decide_eq_true (rfl : z = z)]
        rfl
      · skip
        cases hc3
abbrev s_law_like_m1 : Stmt := top 46
theorem sc_law_like_m1 : FnScope ["actual", "due", "k"] ["actual", "due"] (defScope s_law_like_m1) := ⟨rfl, rfl, rfl, by decide +kernel, rfl, by decide +kernel, by decide +kernel⟩
theorem ok_law_like_m1 {f : Addr} {fd : FuncData} (F : Fun K "_law_like" "_law_like" s_law_like_m1 f fd) (B : Bt mg) (KC : Kt K mg) (KL : Lt K mg) (WD : Zdt K w mg) (G_law_like_int : Fn P w K mg base "_law_like" 1 R_law_like_int) (G_law_like_str : Fn P w K mg base "_law_like" 2 R_law_like_str) :
    FnOk P w K mg base CX0 3 f fd ["actual", "due"] (spR K R_law_like_m1) := by
  refine fn_ok (k := 2) F sc_law_like_m1 (fun ds d h => by cases h <;> rfl) fun ds d hR cdv A outer s H E hr => ?_
  have nd := sc_law_like_m1.nd
  have hu := hr.units
  rcases hR with ⟨ds, hn, hlf⟩
  walk_at "en"
  refine ws_cons (ws_if (td_cmp (ed_var 1 rfl) ed_non (by walk_at "c2")) (fun hc1 => ?_) (fun hc1 => ?_))
  · skip
    cases hc1
  · skip
    clear hc1
    refine ws_nil ?_
    refine ws_cons (ws_if (td_truth (ed_callB (id := "isinstance") (by rfl) B.«isinstance» bb_isinstance (ad_cons (ed_var 1 rfl) (ad_cons (ed_ty (n := "bool") (by rfl) B.«bool» bb_bool) ad_nil)) (bc_isi (c := "bool") (by rfl) (by rfl))) rfl) (fun hc2 => ?_) (fun hc2 => ?_))
    · skip
      cases hc2
    · skip
      clear hc2
      refine ws_nil ?_
      refine ws_cons (ws_if (td_truth (ed_callB (id := "isinstance") (by rfl) B.«isinstance» bb_isinstance (ad_cons (ed_var 1 rfl) (ad_cons (ed_ty (n := "str") (by rfl) B.«str» bb_str) ad_nil)) (bc_isi (c := "str") (by rfl) (by rfl))) rfl) (fun hc3 => ?_) (fun hc3 => ?_))
      · skip
        cases hc3
      · skip
        clear hc3
        refine ws_nil ?_
        refine ws_cons (ws_if (td_truth (ed_callB (id := "isinstance") (by rfl) B.«isinstance» bb_isinstance (ad_cons (ed_var 1 rfl) (ad_cons (ed_ty (n := "int") (by rfl) B.«int» bb_int) ad_nil)) (bc_isi (c := "int") (by rfl) (by rfl))) rfl) (fun hc4 => ?_) (fun hc4 => ?_))
        · skip
          cases hc4
        · skip
          clear hc4
          refine ws_nil ?_
          refine ws_cons (ws_if (td_tw (tw_or (td_cmp (ed_callB (id := "isinstance") (by rfl) B.«isinstance» bb_isinstance (ad_cons (ed_var 1 rfl) (ad_cons (ed_ty (n := "list") (by rfl) B.«list» bb_list) ad_nil)) (bc_isi (c := "list") (by rfl) (by rfl))) (ed_callB (id := "isinstance") (by rfl) B.«isinstance» bb_isinstance (ad_cons (ed_var 0 rfl) (ad_cons (ed_ty (n := "list") (by rfl) B.«list» bb_list) ad_nil)) (bc_isi (c := "list") (by rfl) (by rfl))) (by walk_at "c2")) (fun hb6 => (tw_or1 (td_cmp (ed_callB (id := "isinstance") (by rfl) B.«isinstance» bb_isinstance (ad_cons (ed_var 1 rfl) (ad_cons (ed_ty (n := "tuple") (by rfl) B.«tuple» bb_tuple) ad_nil)) (bc_isi (c := "tuple") (by rfl) (by rfl))) (ed_callB (id := "isinstance") (by rfl) B.«isinstance» bb_isinstance (ad_cons (ed_var 0 rfl) (ad_cons (ed_ty (n := "tuple") (by rfl) B.«tuple» bb_tuple) ad_nil)) (bc_isi (c := "tuple") (by rfl) (by rfl))) (by walk_at "c2")))))) (fun hc5 => ?_) (fun hc5 => ?_))
          · skip
            exact absurd hc5 (by decide)
          · skip
            clear hc5
            refine ws_nil ?_
            refine ws_cons (ws_if (td_cmp (ed_callB (id := "len") (by rfl) B.«len» bb_len (ad_cons (ed_var 0 rfl) ad_nil) (by walk_at "bc")) (ed_callB (id := "len") (by rfl) B.«len» bb_len (ad_cons (ed_var 1 rfl) ad_nil) (by walk_at "bc")) (by walk_at "c2")) (fun hc7 => ?_) (fun hc7 => ?_))
            · skip
              exfalso; simp at hc7
            · skip
              clear hc7
              refine ws_nil ?_
              refine ws_cons (ws_ret (ED.eq (ed_callB (id := "all") (by rfl) B.«all» bb_all (ad_cons (ed_lst (eo_map2 [("k", 2)] (List.range ds.length) (fun (i : Nat) => D.int (i : Int)) (fun _ => true) (D.bl) rfl nd (blkOk_by (N := ["actual", "due", "k"]) (sc := defScope s_law_like_m1) (by decide +kernel)) (id_range1 (by rfl) B.«range» (ed_callB (id := "len") (by rfl) B.«len» bb_len (ad_cons (ed_var 1 rfl) ad_nil) (by walk_at "bc")) (by omega)) (by rw [Int.toNat_natCast]; exact rngD0 _) (fun x hxm => by have hx2 := List.mem_range.mp hxm; exact ⟨_, by rfl, fun _ _ _ _ _ => ⟨(dg_name 2 nd), tds_nil, (by rcases md_cases (hlf _ (List.getElem_mem hx2)) with ⟨i, e⟩ | ⟨z, e⟩ <;> first | exact (ed_call G_law_like_int (hr.mono (by decide)) (by rfl) (ad_cons (ed_ix (d := ds[x]) (ed_var 0 rfl) (ed_var 2 rfl) (.t (atI_nat (by simp [hx2])))) (ad_cons (ed_ix (d := ds[x]) (ed_var 1 rfl) (ed_var 2 rfl) (.t (atI_nat (by simp [hx2])))) ad_nil)) (by rw [e]; exact .mk _)) | exact (ed_call G_law_like_str (hr.mono (by decide)) (by rfl) (ad_cons (ed_ix (d := ds[x]) (ed_var 0 rfl) (ed_var 2 rfl) (.t (atI_nat (by simp [hx2])))) (ad_cons (ed_ix (d := ds[x]) (ed_var 1 rfl) (ed_var 2 rfl) (.t (atI_nat (by simp [hx2])))) ad_nil)) (by rw [e]; exact .mk _)) )⟩⟩) (by rw [List.length_range, sizeLine_eq]; omega))) ad_nil) (bc_all rfl)) ?_) (Or.inl rfl))
              simp
abbrev s_law_like_m2 : Stmt := top 46
theorem sc_law_like_m2 : FnScope ["actual", "due", "k"] ["actual", "due"] (defScope s_law_like_m2) := ⟨rfl, rfl, rfl, by decide +kernel, rfl, by decide +kernel, by decide +kernel⟩
theorem ok_law_like_m2 {f : Addr} {fd : FuncData} (F : Fun K "_law_like" "_law_like" s_law_like_m2 f fd) (B : Bt mg) (KC : Kt K mg) (KL : Lt K mg) (WD : Zdt K w mg) (G_law_like_int : Fn P w K mg base "_law_like" 1 R_law_like_int) (G_law_like_m1 : Fn P w K mg base "_law_like" 3 R_law_like_m1) (G_law_like_str : Fn P w K mg base "_law_like" 2 R_law_like_str) :
    FnOk P w K mg base CX0 4 f fd ["actual", "due"] (spR K R_law_like_m2) := by
  refine fn_ok (k := 3) F sc_law_like_m2 (fun ds d h => by cases h <;> rfl) fun ds d hR cdv A outer s H E hr => ?_
  have nd := sc_law_like_m2.nd
  have hu := hr.units
  rcases hR with ⟨ds, hn, hlf⟩
  walk_at "en"
  refine ws_cons (ws_if (td_cmp (ed_var 1 rfl) ed_non (by walk_at "c2")) (fun hc1 => ?_) (fun hc1 => ?_))
  · skip
    cases hc1
  · skip
    clear hc1
    refine ws_nil ?_
    refine ws_cons (ws_if (td_truth (ed_callB (id := "isinstance") (by rfl) B.«isinstance» bb_isinstance (ad_cons (ed_var 1 rfl) (ad_cons (ed_ty (n := "bool") (by rfl) B.«bool» bb_bool) ad_nil)) (bc_isi (c := "bool") (by rfl) (by rfl))) rfl) (fun hc2 => ?_) (fun hc2 => ?_))
    · skip
      cases hc2
    · skip
      clear hc2
      refine ws_nil ?_
      refine ws_cons (ws_if (td_truth (ed_callB (id := "isinstance") (by rfl) B.«isinstance» bb_isinstance (ad_cons (ed_var 1 rfl) (ad_cons (ed_ty (n := "str") (by rfl) B.«str» bb_str) ad_nil)) (bc_isi (c := "str") (by rfl) (by rfl))) rfl) (fun hc3 => ?_) (fun hc3 => ?_))
      · skip
        cases hc3
      · skip
        clear hc3
        refine ws_nil ?_
        refine ws_cons (ws_if (td_truth (ed_callB (id := "isinstance") (by rfl) B.«isinstance» bb_isinstance (ad_cons (ed_var 1 rfl) (ad_cons (ed_ty (n := "int") (by rfl) B.«int» bb_int) ad_nil)) (bc_isi (c := "int") (by rfl) (by rfl))) rfl) (fun hc4 => ?_) (fun hc4 => ?_))
        · skip
          cases hc4
        · skip
          clear hc4
          refine ws_nil ?_
          refine ws_cons (ws_if (td_tw (tw_or (td_cmp (ed_callB (id := "isinstance") (by rfl) B.«isinstance» bb_isinstance (ad_cons (ed_var 1 rfl) (ad_cons (ed_ty (n := "list") (by rfl) B.«list» bb_list) ad_nil)) (bc_isi (c := "list") (by rfl) (by rfl))) (ed_callB (id := "isinstance") (by rfl) B.«isinstance» bb_isinstance (ad_cons (ed_var 0 rfl) (ad_cons (ed_ty (n := "list") (by rfl) B.«list» bb_list) ad_nil)) (bc_isi (c := "list") (by rfl) (by rfl))) (by walk_at "c2")) (fun hb6 => (tw_or1 (td_cmp (ed_callB (id := "isinstance") (by rfl) B.«isinstance» bb_isinstance (ad_cons (ed_var 1 rfl) (ad_cons (ed_ty (n := "tuple") (by rfl) B.«tuple» bb_tuple) ad_nil)) (bc_isi (c := "tuple") (by rfl) (by rfl))) (ed_callB (id := "isinstance") (by rfl) B.«isinstance» bb_isinstance (ad_cons (ed_var 0 rfl) (ad_cons (ed_ty (n := "tuple") (by rfl) B.«tuple» bb_tuple) ad_nil)) (bc_isi (c := "tuple") (by rfl) (by rfl))) (by walk_at "c2")))))) (fun hc5 => ?_) (fun hc5 => ?_))
          · skip
            exact absurd hc5 (by decide)
          · skip
            clear hc5
            refine ws_nil ?_
            refine ws_cons (ws_if (td_cmp (ed_callB (id := "len") (by rfl) B.«len» bb_len (ad_cons (ed_var 0 rfl) ad_nil) (by walk_at "bc")) (ed_callB (id := "len") (by rfl) B.«len» bb_len (ad_cons (ed_var 1 rfl) ad_nil) (by walk_at "bc")) (by walk_at "c2")) (fun hc7 => ?_) (fun hc7 => ?_))
            · skip
              exfalso; simp at hc7
            · skip
              clear hc7
              refine ws_nil ?_
              refine ws_cons (ws_ret (ED.eq (ed_callB (id := "all") (by rfl) B.«all» bb_all (ad_cons (ed_lst (eo_map2 [("k", 2)] (List.range ds.length) (fun (i : Nat) => D.int (i : Int)) (fun _ => true) (D.bl) rfl nd (blkOk_by (N := ["actual", "due", "k"]) (sc := defScope s_law_like_m2) (by decide +kernel)) (id_range1 (by rfl) B.«range» (ed_callB (id := "len") (by rfl) B.«len» bb_len (ad_cons (ed_var 1 rfl) ad_nil) (by walk_at "bc")) (by omega)) (by rw [Int.toNat_natCast]; exact rngD0 _) (fun x hxm => by have hx2 := List.mem_range.mp hxm; exact ⟨_, by rfl, fun _ _ _ _ _ => ⟨(dg_name 2 nd), tds_nil, (by rcases md_cases (hlf _ (List.getElem_mem hx2)) with ⟨i, e⟩ | ⟨z, e⟩ | ⟨es, e, e2, e3⟩ <;> first | exact (ed_call G_law_like_int (hr.mono (by decide)) (by rfl) (ad_cons (ed_ix (d := ds[x]) (ed_var 0 rfl) (ed_var 2 rfl) (.t (atI_nat (by simp [hx2])))) (ad_cons (ed_ix (d := ds[x]) (ed_var 1 rfl) (ed_var 2 rfl) (.t (atI_nat (by simp [hx2])))) ad_nil)) (by rw [e]; exact .mk _)) | exact (ed_call G_law_like_str (hr.mono (by decide)) (by rfl) (ad_cons (ed_ix (d := ds[x]) (ed_var 0 rfl) (ed_var 2 rfl) (.t (atI_nat (by simp [hx2])))) (ad_cons (ed_ix (d := ds[x]) (ed_var 1 rfl) (ed_var 2 rfl) (.t (atI_nat (by simp [hx2])))) ad_nil)) (by rw [e]; exact .mk _)) | exact (ed_call G_law_like_m1 (hr.mono (by decide)) (by rfl) (ad_cons (ed_ix (d := ds[x]) (ed_var 0 rfl) (ed_var 2 rfl) (.t (atI_nat (by simp [hx2])))) (ad_cons (ed_ix (d := ds[x]) (ed_var 1 rfl) (ed_var 2 rfl) (.t (atI_nat (by simp [hx2])))) ad_nil)) (by rw [e]; exact .mk _ e2 e3)))⟩⟩) (by rw [List.length_range, sizeLine_eq]; omega))) ad_nil) (bc_all rfl)) ?_) (Or.inl rfl))
              simp
abbrev s_law_like_m3 : Stmt := top 46
theorem sc_law_like_m3 : FnScope ["actual", "due", "k"] ["actual", "due"] (defScope s_law_like_m3) := ⟨rfl, rfl, rfl, by decide +kernel, rfl, by decide +kernel, by decide +kernel⟩
theorem ok_law_like_m3 {f : Addr} {fd : FuncData} (F : Fun K "_law_like" "_law_like" s_law_like_m3 f fd) (B : Bt mg) (KC : Kt K mg) (KL : Lt K mg) (WD : Zdt K w mg) (G_law_like_int : Fn P w K mg base "_law_like" 1 R_law_like_int) (G_law_like_m2 : Fn P w K mg base "_law_like" 4 R_law_like_m2) (G_law_like_str : Fn P w K mg base "_law_like" 2 R_law_like_str) :
    FnOk P w K mg base CX0 5 f fd ["actual", "due"] (spR K R_law_like_m3) := by
  refine fn_ok (k := 4) F sc_law_like_m3 (fun ds d h => by cases h <;> rfl) fun ds d hR cdv A outer s H E hr => ?_
  have nd := sc_law_like_m3.nd
  have hu := hr.units
  rcases hR with ⟨ds, hn, hlf⟩
  walk_at "en"
  refine ws_cons (ws_if (td_cmp (ed_var 1 rfl) ed_non (by walk_at "c2")) (fun hc1 => ?_) (fun hc1 => ?_))
  · skip
    cases hc1
  · skip
    clear hc1
    refine ws_nil ?_
    refine ws_cons (ws_if (td_truth (ed_callB (id := "isinstance") (by rfl) B.«isinstance» bb_isinstance (ad_cons (ed_var 1 rfl) (ad_cons (ed_ty (n := "bool") (by rfl) B.«bool» bb_bool) ad_nil)) (bc_isi (c := "bool") (by rfl) (by rfl))) rfl) (fun hc2 => ?_) (fun hc2 => ?_))
    · skip
      cases hc2
    · skip
      clear hc2
      refine ws_nil ?_
      refine ws_cons (ws_if (td_truth (ed_callB (id := "isinstance") (by rfl) B.«isinstance» bb_isinstance (ad_cons (ed_var 1 rfl) (ad_cons (ed_ty (n := "str") (by rfl) B.«str» bb_str) ad_nil)) (bc_isi (c := "str") (by rfl) (by rfl))) rfl) (fun hc3 => ?_) (fun hc3 => ?_))
      · skip
        cases hc3
      · skip
        clear hc3
        refine ws_nil ?_
        refine ws_cons (ws_if (td_truth (ed_callB (id := "isinstance") (by rfl) B.«isinstance» bb_isinstance (ad_cons (ed_var 1 rfl) (ad_cons (ed_ty (n := "int") (by rfl) B.«int» bb_int) ad_nil)) (bc_isi (c := "int") (by rfl) (by rfl))) rfl) (fun hc4 => ?_) (fun hc4 => ?_))
        · skip
          cases hc4
        · skip
          clear hc4
          refine ws_nil ?_
          refine ws_cons (ws_if (td_tw (tw_or (td_cmp (ed_callB (id := "isinstance") (by rfl) B.«isinstance» bb_isinstance (ad_cons (ed_var 1 rfl) (ad_cons (ed_ty (n := "list") (by rfl) B.«list» bb_list) ad_nil)) (bc_isi (c := "list") (by rfl) (by rfl))) (ed_callB (id := "isinstance") (by rfl) B.«isinstance» bb_isinstance (ad_cons (ed_var 0 rfl) (ad_cons (ed_ty (n := "list") (by rfl) B.«list» bb_list) ad_nil)) (bc_isi (c := "list") (by rfl) (by rfl))) (by walk_at "c2")) (fun hb6 => (tw_or1 (td_cmp (ed_callB (id := "isinstance") (by rfl) B.«isinstance» bb_isinstance (ad_cons (ed_var 1 rfl) (ad_cons (ed_ty (n := "tuple") (by rfl) B.«tuple» bb_tuple) ad_nil)) (bc_isi (c := "tuple") (by rfl) (by rfl))) (ed_callB (id := "isinstance") (by rfl) B.«isinstance» bb_isinstance (ad_cons (ed_var 0 rfl) (ad_cons (ed_ty (n := "tuple") (by rfl) B.«tuple» bb_tuple) ad_nil)) (bc_isi (c := "tuple") (by rfl) (by rfl))) (by walk_at "c2")))))) (fun hc5 => ?_) (fun hc5 => ?_))
          · skip
            exact absurd hc5 (by decide)
          · skip
            clear hc5
            refine ws_nil ?_
            refine ws_cons (ws_if (td_cmp (ed_callB (id := "len") (by rfl) B.«len» bb_len (ad_cons (ed_var 0 rfl) ad_nil) (by walk_at "bc")) (ed_callB (id := "len") (by rfl) B.«len» bb_len (ad_cons (ed_var 1 rfl) ad_nil) (by walk_at "bc")) (by walk_at "c2")) (fun hc7 => ?_) (fun hc7 => ?_))
            · skip
              exfalso; simp at hc7
            · skip
              clear hc7
              refine ws_nil ?_
              refine ws_cons (ws_ret (ED.eq (ed_callB (id := "all") (by rfl) B.«all» bb_all (ad_cons (ed_lst (eo_map2 [("k", 2)] (List.range ds.length) (fun (i : Nat) => D.int (i : Int)) (fun _ => true) (D.bl) rfl nd (blkOk_by (N := ["actual", "due", "k"]) (sc := defScope s_law_like_m3) (by decide +kernel)) (id_range1 (by rfl) B.«range» (ed_callB (id := "len") (by rfl) B.«len» bb_len (ad_cons (ed_var 1 rfl) ad_nil) (by walk_at "bc")) (by omega)) (by rw [Int.toNat_natCast]; exact rngD0 _) (fun x hxm => by have hx2 := List.mem_range.mp hxm; exact ⟨_, by rfl, fun _ _ _ _ _ => ⟨(dg_name 2 nd), tds_nil, (by rcases md_cases (hlf _ (List.getElem_mem hx2)) with ⟨i, e⟩ | ⟨z, e⟩ | ⟨es, e, e2, e3⟩ <;> first | exact (ed_call G_law_like_int (hr.mono (by decide)) (by rfl) (ad_cons (ed_ix (d := ds[x]) (ed_var 0 rfl) (ed_var 2 rfl) (.t (atI_nat (by simp [hx2])))) (ad_cons (ed_ix (d := ds[x]) (ed_var 1 rfl) (ed_var 2 rfl) (.t (atI_nat (by simp [hx2])))) ad_nil)) (by rw [e]; exact .mk _)) | exact (ed_call G_law_like_str (hr.mono (by decide)) (by rfl) (ad_cons (ed_ix (d := ds[x]) (ed_var 0 rfl) (ed_var 2 rfl) (.t (atI_nat (by simp [hx2])))) (ad_cons (ed_ix (d := ds[x]) (ed_var 1 rfl) (ed_var 2 rfl) (.t (atI_nat (by simp [hx2])))) ad_nil)) (by rw [e]; exact .mk _)) | exact (ed_call G_law_like_m2 (hr.mono (by decide)) (by rfl) (ad_cons (ed_ix (d := ds[x]) (ed_var 0 rfl) (ed_var 2 rfl) (.t (atI_nat (by simp [hx2])))) (ad_cons (ed_ix (d := ds[x]) (ed_var 1 rfl) (ed_var 2 rfl) (.t (atI_nat (by simp [hx2])))) ad_nil)) (by rw [e]; exact .mk _ e2 e3)))⟩⟩) (by rw [List.length_range, sizeLine_eq]; omega))) ad_nil) (bc_all rfl)) ?_) (Or.inl rfl))
              simp
abbrev s_law_like_m4 : Stmt := top 46
theorem sc_law_like_m4 : FnScope ["actual", "due", "k"] ["actual", "due"] (defScope s_law_like_m4) := ⟨rfl, rfl, rfl, by decide +kernel, rfl, by decide +kernel, by decide +kernel⟩
theorem ok_law_like_m4 {f : Addr} {fd : FuncData} (F : Fun K "_law_like" "_law_like" s_law_like_m4 f fd) (B : Bt mg) (KC : Kt K mg) (KL : Lt K mg) (WD : Zdt K w mg) (G_law_like_int : Fn P w K mg base "_law_like" 1 R_law_like_int) (G_law_like_m3 : Fn P w K mg base "_law_like" 5 R_law_like_m3) (G_law_like_str : Fn P w K mg base "_law_like" 2 R_law_like_str) :
    FnOk P w K mg base CX0 6 f fd ["actual", "due"] (spR K R_law_like_m4) := by
  refine fn_ok (k := 5) F sc_law_like_m4 (fun ds d h => by cases h <;> rfl) fun ds d hR cdv A outer s H E hr => ?_
  have nd := sc_law_like_m4.nd
  have hu := hr.units
  rcases hR with ⟨ds, hn, hlf⟩
  walk_at "en"
  refine ws_cons (ws_if (td_cmp (ed_var 1 rfl) ed_non (by walk_at "c2")) (fun hc1 => ?_) (fun hc1 => ?_))
  · skip
    cases hc1
  · skip
    clear hc1
    refine ws_nil ?_
    refine ws_cons (ws_if (td_truth (ed_callB (id := "isinstance") (by rfl) B.«isinstance» bb_isinstance (ad_cons (ed_var 1 rfl) (ad_cons (ed_ty (n := "bool") (by rfl) B.«bool» bb_bool) ad_nil)) (bc_isi (c := "bool") (by rfl) (by rfl))) rfl) (fun hc2 => ?_) (fun hc2 => ?_))
    · skip
      cases hc2
    · skip
      clear hc2
      refine ws_nil ?_
      refine ws_cons (ws_if (td_truth (ed_callB (id := "isinstance") (by rfl) B.«isinstance» bb_isinstance (ad_cons (ed_var 1 rfl) (ad_cons (ed_ty (n := "str") (by rfl) B.«str» bb_str) ad_nil)) (bc_isi (c := "str") (by rfl) (by rfl))) rfl) (fun hc3 => ?_) (fun hc3 => ?_))
      · skip
        cases hc3
      · skip
        clear hc3
        refine ws_nil ?_
        refine ws_cons (ws_if (td_truth (ed_callB (id := "isinstance") (by rfl) B.«isinstance» bb_isinstance (ad_cons (ed_var 1 rfl) (ad_cons (ed_ty (n := "int") (by rfl) B.«int» bb_int) ad_nil)) (bc_isi (c := "int") (by rfl) (by rfl))) rfl) (fun hc4 => ?_) (fun hc4 => ?_))
        · skip
          cases hc4
        · skip
          clear hc4
          refine ws_nil ?_
          refine ws_cons (ws_if (td_tw (tw_or (td_cmp (ed_callB (id := "isinstance") (by rfl) B.«isinstance» bb_isinstance (ad_cons (ed_var 1 rfl) (ad_cons (ed_ty (n := "list") (by rfl) B.«list» bb_list) ad_nil)) (bc_isi (c := "list") (by rfl) (by rfl))) (ed_callB (id := "isinstance") (by rfl) B.«isinstance» bb_isinstance (ad_cons (ed_var 0 rfl) (ad_cons (ed_ty (n := "list") (by rfl) B.«list» bb_list) ad_nil)) (bc_isi (c := "list") (by rfl) (by rfl))) (by walk_at "c2")) (fun hb6 => (tw_or1 (td_cmp (ed_callB (id := "isinstance") (by rfl) B.«isinstance» bb_isinstance (ad_cons (ed_var 1 rfl) (ad_cons (ed_ty (n := "tuple") (by rfl) B.«tuple» bb_tuple) ad_nil)) (bc_isi (c := "tuple") (by rfl) (by rfl))) (ed_callB (id := "isinstance") (by rfl) B.«isinstance» bb_isinstance (ad_cons (ed_var 0 rfl) (ad_cons (ed_ty (n := "tuple") (by rfl) B.«tuple» bb_tuple) ad_nil)) (bc_isi (c := "tuple") (by rfl) (by rfl))) (by walk_at "c2")))))) (fun hc5 => ?_) (fun hc5 => ?_))
          · skip
            exact absurd hc5 (by decide)
          · skip
            clear hc5
            refine ws_nil ?_
            refine ws_cons (ws_if (td_cmp (ed_callB (id := "len") (by rfl) B.«len» bb_len (ad_cons (ed_var 0 rfl) ad_nil) (by walk_at "bc")) (ed_callB (id := "len") (by rfl) B.«len» bb_len (ad_cons (ed_var 1 rfl) ad_nil) (by walk_at "bc")) (by walk_at "c2")) (fun hc7 => ?_) (fun hc7 => ?_))
            · skip
              exfalso; simp at hc7
            · skip
              clear hc7
              refine ws_nil ?_
              refine ws_cons (ws_ret (ED.eq (ed_callB (id := "all") (by rfl) B.«all» bb_all (ad_cons (ed_lst (eo_map2 [("k", 2)] (List.range ds.length) (fun (i : Nat) => D.int (i : Int)) (fun _ => true) (D.bl) rfl nd (blkOk_by (N := ["actual", "due", "k"]) (sc := defScope s_law_like_m4) (by decide +kernel)) (id_range1 (by rfl) B.«range» (ed_callB (id := "len") (by rfl) B.«len» bb_len (ad_cons (ed_var 1 rfl) ad_nil) (by walk_at "bc")) (by omega)) (by rw [Int.toNat_natCast]; exact rngD0 _) (fun x hxm => by have hx2 := List.mem_range.mp hxm; exact ⟨_, by rfl, fun _ _ _ _ _ => ⟨(dg_name 2 nd), tds_nil, (by rcases md_cases (hlf _ (List.getElem_mem hx2)) with ⟨i, e⟩ | ⟨z, e⟩ | ⟨es, e, e2, e3⟩ <;> first | exact (ed_call G_law_like_int (hr.mono (by decide)) (by rfl) (ad_cons (ed_ix (d := ds[x]) (ed_var 0 rfl) (ed_var 2 rfl) (.t (atI_nat (by simp [hx2])))) (ad_cons (ed_ix (d := ds[x]) (ed_var 1 rfl) (ed_var 2 rfl) (.t (atI_nat (by simp [hx2])))) ad_nil)) (by rw [e]; exact .mk _)) | exact (ed_call G_law_like_str (hr.mono (by decide)) (by rfl) (ad_cons (ed_ix (d := ds[x]) (ed_var 0 rfl) (ed_var 2 rfl) (.t (atI_nat (by simp [hx2])))) (ad_cons (ed_ix (d := ds[x]) (ed_var 1 rfl) (ed_var 2 rfl) (.t (atI_nat (by simp [hx2])))) ad_nil)) (by rw [e]; exact .mk _)) | exact (ed_call G_law_like_m3 (hr.mono (by decide)) (by rfl) (ad_cons (ed_ix (d := ds[x]) (ed_var 0 rfl) (ed_var 2 rfl) (.t (atI_nat (by simp [hx2])))) (ad_cons (ed_ix (d := ds[x]) (ed_var 1 rfl) (ed_var 2 rfl) (.t (atI_nat (by simp [hx2])))) ad_nil)) (by rw [e]; exact .mk _ e2 e3)))⟩⟩) (by rw [List.length_range, sizeLine_eq]; omega))) ad_nil) (bc_all rfl)) ?_) (Or.inl rfl))
              simp
abbrev s_law_like_m5 : Stmt := top 46
theorem sc_law_like_m5 : FnScope ["actual", "due", "k"] ["actual", "due"] (defScope s_law_like_m5) := ⟨rfl, rfl, rfl, by decide +kernel, rfl, by decide +kernel, by decide +kernel⟩
theorem ok_law_like_m5 {f : Addr} {fd : FuncData} (F : Fun K "_law_like" "_law_like" s_law_like_m5 f fd) (B : Bt mg) (KC : Kt K mg) (KL : Lt K mg) (WD : Zdt K w mg) (G_law_like_int : Fn P w K mg base "_law_like" 1 R_law_like_int) (G_law_like_m4 : Fn P w K mg base "_law_like" 6 R_law_like_m4) (G_law_like_str : Fn P w K mg base "_law_like" 2 R_law_like_str) :
    FnOk P w K mg base CX0 7 f fd ["actual", "due"] (spR K R_law_like_m5) := by
  refine fn_ok (k := 6) F sc_law_like_m5 (fun ds d h => by cases h <;> rfl) fun ds d hR cdv A outer s H E hr => ?_
  have nd := sc_law_like_m5.nd
  have hu := hr.units
  rcases hR with ⟨ds, hn, hlf⟩
  walk_at "en"
  refine ws_cons (ws_if (td_cmp (ed_var 1 rfl) ed_non (by walk_at "c2")) (fun hc1 => ?_) (fun hc1 => ?_))
  · skip
    cases hc1
  · skip
    clear hc1
    refine ws_nil ?_
    refine ws_cons (ws_if (td_truth (ed_callB (id := "isinstance") (by rfl) B.«isinstance» bb_isinstance (ad_cons (ed_var 1 rfl) (ad_cons (ed_ty (n := "bool") (by rfl) B.«bool» bb_bool) ad_nil)) (bc_isi (c := "bool") (by rfl) (by rfl))) rfl) (fun hc2 => ?_) (fun hc2 => ?_))
    · skip
      cases hc2
    · skip
      clear hc2
      refine ws_nil ?_
      refine ws_cons (ws_if (td_truth (ed_callB (id := "isinstance") (by rfl) B.«isinstance» bb_isinstance (ad_cons (ed_var 1 rfl) (ad_cons (ed_ty (n := "str") (by rfl) B.«str» bb_str) ad_nil)) (bc_isi (c := "str") (by rfl) (by rfl))) rfl) (fun hc3 => ?_) (fun hc3 => ?_))
      · skip
        cases hc3
      · skip
        clear hc3
        refine ws_nil ?_
        refine ws_cons (ws_if (td_truth (ed_callB (id := "isinstance") (by rfl) B.«isinstance» bb_isinstance (ad_cons (ed_var 1 rfl) (ad_cons (ed_ty (n := "int") (by rfl) B.«int» bb_int) ad_nil)) (bc_isi (c := "int") (by rfl) (by rfl))) rfl) (fun hc4 => ?_) (fun hc4 => ?_))
        · skip
          cases hc4
        · skip
          clear hc4
          refine ws_nil ?_
          refine ws_cons (ws_if (td_tw (tw_or (td_cmp (ed_callB (id := "isinstance") (by rfl) B.«isinstance» bb_isinstance (ad_cons (ed_var 1 rfl) (ad_cons (ed_ty (n := "list") (by rfl) B.«list» bb_list) ad_nil)) (bc_isi (c := "list") (by rfl) (by rfl))) (ed_callB (id := "isinstance") (by rfl) B.«isinstance» bb_isinstance (ad_cons (ed_var 0 rfl) (ad_cons (ed_ty (n := "list") (by rfl) B.«list» bb_list) ad_nil)) (bc_isi (c := "list") (by rfl) (by rfl))) (by walk_at "c2")) (fun hb6 => (tw_or1 (td_cmp (ed_callB (id := "isinstance") (by rfl) B.«isinstance» bb_isinstance (ad_cons (ed_var 1 rfl) (ad_cons (ed_ty (n := "tuple") (by rfl) B.«tuple» bb_tuple) ad_nil)) (bc_isi (c := "tuple") (by rfl) (by rfl))) (ed_callB (id := "isinstance") (by rfl) B.«isinstance» bb_isinstance (ad_cons (ed_var 0 rfl) (ad_cons (ed_ty (n := "tuple") (by rfl) B.«tuple» bb_tuple) ad_nil)) (bc_isi (c := "tuple") (by rfl) (by rfl))) (by walk_at "c2")))))) (fun hc5 => ?_) (fun hc5 => ?_))
          · skip
            exact absurd hc5 (by decide)
          · skip
            clear hc5
            refine ws_nil ?_
            refine ws_cons (ws_if (td_cmp (ed_callB (id := "len") (by rfl) B.«len» bb_len (ad_cons (ed_var 0 rfl) ad_nil) (by walk_at "bc")) (ed_callB (id := "len") (by rfl) B.«len» bb_len (ad_cons (ed_var 1 rfl) ad_nil) (by walk_at "bc")) (by walk_at "c2")) (fun hc7 => ?_) (fun hc7 => ?_))
            · skip
              exfalso; simp at hc7
            · skip
              clear hc7
              refine ws_nil ?_
              refine ws_cons (ws_ret (ED.eq (ed_callB (id := "all") (by rfl) B.«all» bb_all (ad_cons (ed_lst (eo_map2 [("k", 2)] (List.range ds.length) (fun (i : Nat) => D.int (i : Int)) (fun _ => true) (D.bl) rfl nd (blkOk_by (N := ["actual", "due", "k"]) (sc := defScope s_law_like_m5) (by decide +kernel)) (id_range1 (by rfl) B.«range» (ed_callB (id := "len") (by rfl) B.«len» bb_len (ad_cons (ed_var 1 rfl) ad_nil) (by walk_at "bc")) (by omega)) (by rw [Int.toNat_natCast]; exact rngD0 _) (fun x hxm => by have hx2 := List.mem_range.mp hxm; exact ⟨_, by rfl, fun _ _ _ _ _ => ⟨(dg_name 2 nd), tds_nil, (by rcases md_cases (hlf _ (List.getElem_mem hx2)) with ⟨i, e⟩ | ⟨z, e⟩ | ⟨es, e, e2, e3⟩ <;> first | exact (ed_call G_law_like_int (hr.mono (by decide)) (by rfl) (ad_cons (ed_ix (d := ds[x]) (ed_var 0 rfl) (ed_var 2 rfl) (.t (atI_nat (by simp [hx2])))) (ad_cons (ed_ix (d := ds[x]) (ed_var 1 rfl) (ed_var 2 rfl) (.t (atI_nat (by simp [hx2])))) ad_nil)) (by rw [e]; exact .mk _)) | exact (ed_call G_law_like_str (hr.mono (by decide)) (by rfl) (ad_cons (ed_ix (d := ds[x]) (ed_var 0 rfl) (ed_var 2 rfl) (.t (atI_nat (by simp [hx2])))) (ad_cons (ed_ix (d := ds[x]) (ed_var 1 rfl) (ed_var 2 rfl) (.t (atI_nat (by simp [hx2])))) ad_nil)) (by rw [e]; exact .mk _)) | exact (ed_call G_law_like_m4 (hr.mono (by decide)) (by rfl) (ad_cons (ed_ix (d := ds[x]) (ed_var 0 rfl) (ed_var 2 rfl) (.t (atI_nat (by simp [hx2])))) (ad_cons (ed_ix (d := ds[x]) (ed_var 1 rfl) (ed_var 2 rfl) (.t (atI_nat (by simp [hx2])))) ad_nil)) (by rw [e]; exact .mk _ e2 e3)))⟩⟩) (by rw [List.length_range, sizeLine_eq]; omega))) ad_nil) (bc_all rfl)) ?_) (Or.inl rfl))
              simp
abbrev s_law_like_m6 : Stmt := top 46
theorem sc_law_like_m6 : FnScope ["actual", "due", "k"] ["actual", "due"] (defScope s_law_like_m6) := ⟨rfl, rfl, rfl, by decide +kernel, rfl, by decide +kernel, by decide +kernel⟩
theorem ok_law_like_m6 {f : Addr} {fd : FuncData} (F : Fun K "_law_like" "_law_like" s_law_like_m6 f fd) (B : Bt mg) (KC : Kt K mg) (KL : Lt K mg) (WD : Zdt K w mg) (G_law_like_int : Fn P w K mg base "_law_like" 1 R_law_like_int) (G_law_like_m5 : Fn P w K mg base "_law_like" 7 R_law_like_m5) (G_law_like_str : Fn P w K mg base "_law_like" 2 R_law_like_str) :
    FnOk P w K mg base CX0 8 f fd ["actual", "due"] (spR K R_law_like_m6) := by
  refine fn_ok (k := 7) F sc_law_like_m6 (fun ds d h => by cases h <;> rfl) fun ds d hR cdv A outer s H E hr => ?_
  have nd := sc_law_like_m6.nd
  have hu := hr.units
  rcases hR with ⟨ds, hn, hlf⟩
  walk_at "en"
  refine ws_cons (ws_if (td_cmp (ed_var 1 rfl) ed_non (by walk_at "c2")) (fun hc1 => ?_) (fun hc1 => ?_))
  · skip
    cases hc1
  · skip
    clear hc1
    refine ws_nil ?_
    refine ws_cons (ws_if (td_truth (ed_callB (id := "isinstance") (by rfl) B.«isinstance» bb_isinstance (ad_cons (ed_var 1 rfl) (ad_cons (ed_ty (n := "bool") (by rfl) B.«bool» bb_bool) ad_nil)) (bc_isi (c := "bool") (by rfl) (by rfl))) rfl) (fun hc2 => ?_) (fun hc2 => ?_))
    · skip
      cases hc2
    · skip
      clear hc2
      refine ws_nil ?_
      refine ws_cons (ws_if (td_truth (ed_callB (id := "isinstance") (by rfl) B.«isinstance» bb_isinstance (ad_cons (ed_var 1 rfl) (ad_cons (ed_ty (n := "str") (by rfl) B.«str» bb_str) ad_nil)) (bc_isi (c := "str") (by rfl) (by rfl))) rfl) (fun hc3 => ?_) (fun hc3 => ?_))
      · skip
        cases hc3
      · skip
        clear hc3
        refine ws_nil ?_
        refine ws_cons (ws_if (td_truth (ed_callB (id := "isinstance") (by rfl) B.«isinstance» bb_isinstance (ad_cons (ed_var 1 rfl) (ad_cons (ed_ty (n := "int") (by rfl) B.«int» bb_int) ad_nil)) (bc_isi (c := "int") (by rfl) (by rfl))) rfl) (fun hc4 => ?_) (fun hc4 => ?_))
        · skip
          cases hc4
        · skip
          clear hc4
          refine ws_nil ?_
          refine ws_cons (ws_if (td_tw (tw_or (td_cmp (ed_callB (id := "isinstance") (by rfl) B.«isinstance» bb_isinstance (ad_cons (ed_var 1 rfl) (ad_cons (ed_ty (n := "list") (by rfl) B.«list» bb_list) ad_nil)) (bc_isi (c := "list") (by rfl) (by rfl))) (ed_callB (id := "isinstance") (by rfl) B.«isinstance» bb_isinstance (ad_cons (ed_var 0 rfl) (ad_cons (ed_ty (n := "list") (by rfl) B.«list» bb_list) ad_nil)) (bc_isi (c := "list") (by rfl) (by rfl))) (by walk_at "c2")) (fun hb6 => (tw_or1 (td_cmp (ed_callB (id := "isinstance") (by rfl) B.«isinstance» bb_isinstance (ad_cons (ed_var 1 rfl) (ad_cons (ed_ty (n := "tuple") (by rfl) B.«tuple» bb_tuple) ad_nil)) (bc_isi (c := "tuple") (by rfl) (by rfl))) (ed_callB (id := "isinstance") (by rfl) B.«isinstance» bb_isinstance (ad_cons (ed_var 0 rfl) (ad_cons (ed_ty (n := "tuple") (by rfl) B.«tuple» bb_tuple) ad_nil)) (bc_isi (c := "tuple") (by rfl) (by rfl))) (by walk_at "c2")))))) (fun hc5 => ?_) (fun hc5 => ?_))
          · skip
            exact absurd hc5 (by decide)
          · skip
            clear hc5
            refine ws_nil ?_
            refine ws_cons (ws_if (td_cmp (ed_callB (id := "len") (by rfl) B.«len» bb_len (ad_cons (ed_var 0 rfl) ad_nil) (by walk_at "bc")) (ed_callB (id := "len") (by rfl) B.«len» bb_len (ad_cons (ed_var 1 rfl) ad_nil) (by walk_at "bc")) (by walk_at "c2")) (fun hc7 => ?_) (fun hc7 => ?_))
            · skip
              exfalso; simp at hc7
            · skip
              clear hc7
              refine ws_nil ?_
              refine ws_cons (ws_ret (ED.eq (ed_callB (id := "all") (by rfl) B.«all» bb_all (ad_cons (ed_lst (eo_map2 [("k", 2)] (List.range ds.length) (fun (i : Nat) => D.int (i : Int)) (fun _ => true) (D.bl) rfl nd (blkOk_by (N := ["actual", "due", "k"]) (sc := defScope s_law_like_m6) (by decide +kernel)) (id_range1 (by rfl) B.«range» (ed_callB (id := "len") (by rfl) B.«len» bb_len (ad_cons (ed_var 1 rfl) ad_nil) (by walk_at "bc")) (by omega)) (by rw [Int.toNat_natCast]; exact rngD0 _) (fun x hxm => by have hx2 := List.mem_range.mp hxm; exact ⟨_, by rfl, fun _ _ _ _ _ => ⟨(dg_name 2 nd), tds_nil, (by rcases md_cases (hlf _ (List.getElem_mem hx2)) with ⟨i, e⟩ | ⟨z, e⟩ | ⟨es, e, e2, e3⟩ <;> first | exact (ed_call G_law_like_int (hr.mono (by decide)) (by rfl) (ad_cons (ed_ix (d := ds[x]) (ed_var 0 rfl) (ed_var 2 rfl) (.t (atI_nat (by simp [hx2])))) (ad_cons (ed_ix (d := ds[x]) (ed_var 1 rfl) (ed_var 2 rfl) (.t (atI_nat (by simp [hx2])))) ad_nil)) (by rw [e]; exact .mk _)) | exact (ed_call G_law_like_str (hr.mono (by decide)) (by rfl) (ad_cons (ed_ix (d := ds[x]) (ed_var 0 rfl) (ed_var 2 rfl) (.t (atI_nat (by simp [hx2])))) (ad_cons (ed_ix (d := ds[x]) (ed_var 1 rfl) (ed_var 2 rfl) (.t (atI_nat (by simp [hx2])))) ad_nil)) (by rw [e]; exact .mk _)) | exact (ed_call G_law_like_m5 (hr.mono (by decide)) (by rfl) (ad_cons (ed_ix (d := ds[x]) (ed_var 0 rfl) (ed_var 2 rfl) (.t (atI_nat (by simp [hx2])))) (ad_cons (ed_ix (d := ds[x]) (ed_var 1 rfl) (ed_var 2 rfl) (.t (atI_nat (by simp [hx2])))) ad_nil)) (by rw [e]; exact .mk _ e2 e3)))⟩⟩) (by rw [List.length_range, sizeLine_eq]; omega))) ad_nil) (bc_all rfl)) ?_) (Or.inl rfl))
              simp
abbrev s_law_like_m7 : Stmt := top 46
theorem sc_law_like_m7 : FnScope ["actual", "due", "k"] ["actual", "due"] (defScope s_law_like_m7) := ⟨rfl, rfl, rfl, by decide +kernel, rfl, by decide +kernel, by decide +kernel⟩
theorem ok_law_like_m7 {f : Addr} {fd : FuncData} (F : Fun K "_law_like" "_law_like" s_law_like_m7 f fd) (B : Bt mg) (KC : Kt K mg) (KL : Lt K mg) (WD : Zdt K w mg) (G_law_like_int : Fn P w K mg base "_law_like" 1 R_law_like_int) (G_law_like_m6 : Fn P w K mg base "_law_like" 8 R_law_like_m6) (G_law_like_str : Fn P w K mg base "_law_like" 2 R_law_like_str) :
    FnOk P w K mg base CX0 9 f fd ["actual", "due"] (spR K R_law_like_m7) := by
  refine fn_ok (k := 8) F sc_law_like_m7 (fun ds d h => by cases h <;> rfl) fun ds d hR cdv A outer s H E hr => ?_
  have nd := sc_law_like_m7.nd
  have hu := hr.units
  rcases hR with ⟨ds, hn, hlf⟩
  walk_at "en"
  refine ws_cons (ws_if (td_cmp (ed_var 1 rfl) ed_non (by walk_at "c2")) (fun hc1 => ?_) (fun hc1 => ?_))
  · skip
    cases hc1
  · skip
    clear hc1
    refine ws_nil ?_
    refine ws_cons (ws_if (td_truth (ed_callB (id := "isinstance") (by rfl) B.«isinstance» bb_isinstance (ad_cons (ed_var 1 rfl) (ad_cons (ed_ty (n := "bool") (by rfl) B.«bool» bb_bool) ad_nil)) (bc_isi (c := "bool") (by rfl) (by rfl))) rfl) (fun hc2 => ?_) (fun hc2 => ?_))
    · skip
      cases hc2
    · skip
      clear hc2
      refine ws_nil ?_
      refine ws_cons (ws_if (td_truth (ed_callB (id := "isinstance") (by rfl) B.«isinstance» bb_isinstance (ad_cons (ed_var 1 rfl) (ad_cons (ed_ty (n := "str") (by rfl) B.«str» bb_str) ad_nil)) (bc_isi (c := "str") (by rfl) (by rfl))) rfl) (fun hc3 => ?_) (fun hc3 => ?_))
      · skip
        cases hc3
      · skip
        clear hc3
        refine ws_nil ?_
        refine ws_cons (ws_if (td_truth (ed_callB (id := "isinstance") (by rfl) B.«isinstance» bb_isinstance (ad_cons (ed_var 1 rfl) (ad_cons (ed_ty (n := "int") (by rfl) B.«int» bb_int) ad_nil)) (bc_isi (c := "int") (by rfl) (by rfl))) rfl) (fun hc4 => ?_) (fun hc4 => ?_))
        · skip
          cases hc4
        · skip
          clear hc4
          refine ws_nil ?_
          refine ws_cons (ws_if (td_tw (tw_or (td_cmp (ed_callB (id := "isinstance") (by rfl) B.«isinstance» bb_isinstance (ad_cons (ed_var 1 rfl) (ad_cons (ed_ty (n := "list") (by rfl) B.«list» bb_list) ad_nil)) (bc_isi (c := "list") (by rfl) (by rfl))) (ed_callB (id := "isinstance") (by rfl) B.«isinstance» bb_isinstance (ad_cons (ed_var 0 rfl) (ad_cons (ed_ty (n := "list") (by rfl) B.«list» bb_list) ad_nil)) (bc_isi (c := "list") (by rfl) (by rfl))) (by walk_at "c2")) (fun hb6 => (tw_or1 (td_cmp (ed_callB (id := "isinstance") (by rfl) B.«isinstance» bb_isinstance (ad_cons (ed_var 1 rfl) (ad_cons (ed_ty (n := "tuple") (by rfl) B.«tuple» bb_tuple) ad_nil)) (bc_isi (c := "tuple") (by rfl) (by rfl))) (ed_callB (id := "isinstance") (by rfl) B.«isinstance» bb_isinstance (ad_cons (ed_var 0 rfl) (ad_cons (ed_ty (n := "tuple") (by rfl) B.«tuple» bb_tuple) ad_nil)) (bc_isi (c := "tuple") (by rfl) (by rfl))) (by walk_at "c2")))))) (fun hc5 => ?_) (fun hc5 => ?_))
          · skip
            exact absurd hc5 (by decide)
          · skip
            clear hc5
            refine ws_nil ?_
            refine ws_cons (ws_if (td_cmp (ed_callB (id := "len") (by rfl) B.«len» bb_len (ad_cons (ed_var 0 rfl) ad_nil) (by walk_at "bc")) (ed_callB (id := "len") (by rfl) B.«len» bb_len (ad_cons (ed_var 1 rfl) ad_nil) (by walk_at "bc")) (by walk_at "c2")) (fun hc7 => ?_) (fun hc7 => ?_))
            · skip
              exfalso; simp at hc7
            · skip
              clear hc7
              refine ws_nil ?_
              refine ws_cons (ws_ret (ED.eq (ed_callB (id := "all") (by rfl) B.«all» bb_all (ad_cons (ed_lst (eo_map2 [("k", 2)] (List.range ds.length) (fun (i : Nat) => D.int (i : Int)) (fun _ => true) (D.bl) rfl nd (blkOk_by (N := ["actual", "due", "k"]) (sc := defScope s_law_like_m7) (by decide +kernel)) (id_range1 (by rfl) B.«range» (ed_callB (id := "len") (by rfl) B.«len» bb_len (ad_cons (ed_var 1 rfl) ad_nil) (by walk_at "bc")) (by omega)) (by rw [Int.toNat_natCast]; exact rngD0 _) (fun x hxm => by have hx2 := List.mem_range.mp hxm; exact ⟨_, by rfl, fun _ _ _ _ _ => ⟨(dg_name 2 nd), tds_nil, (by rcases md_cases (hlf _ (List.getElem_mem hx2)) with ⟨i, e⟩ | ⟨z, e⟩ | ⟨es, e, e2, e3⟩ <;> first | exact (ed_call G_law_like_int (hr.mono (by decide)) (by rfl) (ad_cons (ed_ix (d := ds[x]) (ed_var 0 rfl) (ed_var 2 rfl) (.t (atI_nat (by simp [hx2])))) (ad_cons (ed_ix (d := ds[x]) (ed_var 1 rfl) (ed_var 2 rfl) (.t (atI_nat (by simp [hx2])))) ad_nil)) (by rw [e]; exact .mk _)) | exact (ed_call G_law_like_str (hr.mono (by decide)) (by rfl) (ad_cons (ed_ix (d := ds[x]) (ed_var 0 rfl) (ed_var 2 rfl) (.t (atI_nat (by simp [hx2])))) (ad_cons (ed_ix (d := ds[x]) (ed_var 1 rfl) (ed_var 2 rfl) (.t (atI_nat (by simp [hx2])))) ad_nil)) (by rw [e]; exact .mk _)) | exact (ed_call G_law_like_m6 (hr.mono (by decide)) (by rfl) (ad_cons (ed_ix (d := ds[x]) (ed_var 0 rfl) (ed_var 2 rfl) (.t (atI_nat (by simp [hx2])))) (ad_cons (ed_ix (d := ds[x]) (ed_var 1 rfl) (ed_var 2 rfl) (.t (atI_nat (by simp [hx2])))) ad_nil)) (by rw [e]; exact .mk _ e2 e3)))⟩⟩) (by rw [List.length_range, sizeLine_eq]; omega))) ad_nil) (bc_all rfl)) ?_) (Or.inl rfl))
              simp
abbrev s_law_qexpression_d0 : Stmt := top 47
theorem sc_law_qexpression_d0 : FnScope ["draws", "at", "depth", "names", "draw", "kind", "n", "left", "right"] ["draws", "at", "depth", "names"] (defScope s_law_qexpression_d0) := ⟨rfl, rfl, rfl, by decide +kernel, rfl, by decide +kernel, by decide +kernel⟩
theorem ok_law_qexpression_d0 {f : Addr} {fd : FuncData} (F : Fun K "_law_qexpression" "_law_qexpression" s_law_qexpression_d0 f fd) (B : Bt mg) (KC : Kt K mg) (KL : Lt K mg) (WD : Zdt K w mg)  :
    FnOk P w K mg base CX0 1 f fd ["draws", "at", "depth", "names"] (spR K R_law_qexpression_d0) := by
  refine fn_ok (k := 0) F sc_law_qexpression_d0 (fun ds d h => by cases h <;> rfl) fun ds d hR cdv A outer s H E hr => ?_
  have nd := sc_law_qexpression_d0.nd
  have hu := hr.units
  rcases hR with ⟨c, N, a, dp, hN, hNl, hd⟩
  obtain ⟨q, hq⟩ : ∃ q, q = dr c 90 (a % 90) := ⟨_, rfl⟩
  walk_at "en"
  refine ws_cons (ws_set 4 nd (ED.eq (ed_ix (ed_var 0 rfl) (ed_bin (ed_var 1 rfl) ed_int (by walk_at "b2")) (by walk_at "ix")) (show _ = (.int q) from by rw [hq])) ?_)
  walk_at "env"
  refine ws_cons (ws_if (td_tw (tw_or (td_cmp (ed_var 2 rfl) ed_int (by walk_at "c2")) (fun hb2 => (tw_or1 (td_cmp (ed_bin (ed_var 4 rfl) ed_int (by walk_at "b2")) ed_int (by walk_at "c2")))))) (fun hc1 => ?_) (fun hc1 => ?_))
  · skip
    have hly : dp < 2 ∨ dr c 90 (a % 90) % 7 = 6 := by rw [← hq]; simpa using hc1
    refine ws_cons (ws_ret (ED.eq (ed_tup (ad_cons ed_str (ad_cons (ED.eq (ed_ix (ED.eq (ed_var 3 rfl) rfl) (ed_bin (ed_bin (ed_var 4 rfl) ed_int (by walk_at "b2")) (ED.eq (ed_callB (id := "len") (by rfl) B.«len» bb_len (ad_cons (ed_var 3 rfl) ad_nil) (by walk_at "bc")) (show _ = (D.int (N.length : Int)) from by rw [List.length_map])) (by walk_at "b2")) (.l (at_getC (xs := N) (f := D.str) (i := q / 7 % (N.length : Int)) (a := "") ⟨Int.emod_nonneg _ (by omega), Int.emod_lt_of_pos _ (by omega)⟩))) (show _ = D.str (N.getD (dr c 90 (a % 90) / 7 % (N.length : Int)).toNat "") by rw [← hq])) ad_nil))) ?_) (Or.inl rfl))
    first | (rw [qEx_lay 0 hly]; rfl)
  · skip
    exfalso; simp at hc1; omega
abbrev s_law_qexpression_d1 : Stmt := top 47
theorem sc_law_qexpression_d1 : FnScope ["draws", "at", "depth", "names", "draw", "kind", "n", "left", "right"] ["draws", "at", "depth", "names"] (defScope s_law_qexpression_d1) := ⟨rfl, rfl, rfl, by decide +kernel, rfl, by decide +kernel, by decide +kernel⟩
theorem ok_law_qexpression_d1 {f : Addr} {fd : FuncData} (F : Fun K "_law_qexpression" "_law_qexpression" s_law_qexpression_d1 f fd) (B : Bt mg) (KC : Kt K mg) (KL : Lt K mg) (WD : Zdt K w mg) (G_law_qexpression_d0 : Fn P w K mg base "_law_qexpression" 1 R_law_qexpression_d0) (G_law_qexpression_d0 : Fn P w K mg base "_law_qexpression" 1 R_law_qexpression_d0) :
    FnOk P w K mg base CX0 2 f fd ["draws", "at", "depth", "names"] (spR K R_law_qexpression_d1) := by
  refine fn_ok (k := 1) F sc_law_qexpression_d1 (fun ds d h => by cases h <;> rfl) fun ds d hR cdv A outer s H E hr => ?_
  have nd := sc_law_qexpression_d1.nd
  have hu := hr.units
  rcases hR with ⟨c, N, a, dp, hN, hNl, hd⟩
  obtain ⟨q, hq⟩ : ∃ q, q = dr c 90 (a % 90) := ⟨_, rfl⟩
  walk_at "en"
  refine ws_cons (ws_set 4 nd (ED.eq (ed_ix (ed_var 0 rfl) (ed_bin (ed_var 1 rfl) ed_int (by walk_at "b2")) (by walk_at "ix")) (show _ = (.int q) from by rw [hq])) ?_)
  walk_at "env"
  refine ws_cons (ws_if (td_tw (tw_or (td_cmp (ed_var 2 rfl) ed_int (by walk_at "c2")) (fun hb2 => (tw_or1 (td_cmp (ed_bin (ed_var 4 rfl) ed_int (by walk_at "b2")) ed_int (by walk_at "c2")))))) (fun hc1 => ?_) (fun hc1 => ?_))
  · skip
    have hly : dp < 2 ∨ dr c 90 (a % 90) % 7 = 6 := by rw [← hq]; simpa using hc1
    refine ws_cons (ws_ret (ED.eq (ed_tup (ad_cons ed_str (ad_cons (ED.eq (ed_ix (ED.eq (ed_var 3 rfl) rfl) (ed_bin (ed_bin (ed_var 4 rfl) ed_int (by walk_at "b2")) (ED.eq (ed_callB (id := "len") (by rfl) B.«len» bb_len (ad_cons (ed_var 3 rfl) ad_nil) (by walk_at "bc")) (show _ = (D.int (N.length : Int)) from by rw [List.length_map])) (by walk_at "b2")) (.l (at_getC (xs := N) (f := D.str) (i := q / 7 % (N.length : Int)) (a := "") ⟨Int.emod_nonneg _ (by omega), Int.emod_lt_of_pos _ (by omega)⟩))) (show _ = D.str (N.getD (dr c 90 (a % 90) / 7 % (N.length : Int)).toNat "") by rw [← hq])) ad_nil))) ?_) (Or.inl rfl))
    first | (rw [qEx_lay 1 hly]; rfl) | (rw [qEx_two hly (by rw [← hq]; exact h4), ← hq]; rfl) | (rw [qEx_siz hly (by rw [← hq]; exact h4), ← hq, hn9]; rfl) | (show _ = D.tup _; rw [qEx_siz hly (by rw [← hq]; exact h4), ← hq]; unfold Ex.e; rw [hn9])
  · skip
    have hly : ¬ (dp < 2 ∨ dr c 90 (a % 90) % 7 = 6) := by rw [← hq]; simpa using hc1
    have hq6 : ¬ q % 7 = 6 := fun z => hly (.inr (by rw [← hq]; exact z))
    refine ws_nil ?_
    refine ws_cons (ws_if (td_cmp (ed_bin (ed_var 4 rfl) ed_int (by walk_at "b2")) ed_int (by walk_at "c2")) (fun hc3 => ?_) (fun hc3 => ?_))
    · skip
      have h4 : q % 7 < 4 := of_decide_eq_true hc3
      refine ws_cons (ws_set 7 nd (ed_call G_law_qexpression_d0 (hr.mono (by decide)) (by rfl) (ad_cons (ed_var 0 rfl) (ad_cons (ed_bin (ed_bin ed_int (ed_var 1 rfl) (by walk_at "b2")) ed_int (by walk_at "b2")) (ad_cons (ed_bin (ed_var 2 rfl) ed_int (by walk_at "b2")) (ad_cons (ed_var 3 rfl) ad_nil)))) (by exact .mk c N _ _ hN hNl (by omega))) ?_)
      walk_at "env"
      refine ws_cons (ws_set 8 nd (ed_call G_law_qexpression_d0 (hr.mono (by decide)) (by rfl) (ad_cons (ed_var 0 rfl) (ad_cons (ed_bin (ed_bin ed_int (ed_var 1 rfl) (by walk_at "b2")) ed_int (by walk_at "b2")) (ad_cons (ed_bin (ed_bin (ed_var 2 rfl) ed_int (by walk_at "b2")) (ed_bin (ed_bin (ed_var 4 rfl) ed_int (by walk_at "b2")) ed_int (by walk_at "b2")) (by walk_at "b2")) (ad_cons (ed_var 3 rfl) ad_nil)))) (by exact .mk c N _ _ hN hNl (by omega))) ?_)
      walk_at "env"
      refine ws_cons (ws_ret (ED.eq (ed_tup (ad_cons (ED.eq (ed_ix (ED.eq (ed_lst (eo_lst (ad_cons ed_str (ad_cons ed_str (ad_cons ed_str (ad_cons ed_str ad_nil)))))) (show _ = D.lst (opL4.map .str) from rfl)) (ed_bin (ed_var 4 rfl) ed_int (by walk_at "b2")) (.l (at_getC (xs := opL4) (f := D.str) (i := q % 7) (a := "") (by show _ ∧ _ < (4 : Int); omega)))) (show _ = D.str (opP (Fin.ofNat 4 (q % 7).toNat)) from congrArg D.str (opP_get (by omega)))) (ad_cons (ed_var 7 rfl) (ad_cons (ed_var 8 rfl) ad_nil)))) ?_) (Or.inl rfl))
      first | (rw [qEx_lay 1 hly]; rfl) | (rw [qEx_two hly (by rw [← hq]; exact h4), ← hq]; rfl) | (rw [qEx_siz hly (by rw [← hq]; exact h4), ← hq, hn9]; rfl) | (show _ = D.tup _; rw [qEx_siz hly (by rw [← hq]; exact h4), ← hq]; unfold Ex.e; rw [hn9])
    · skip
      have h4 : ¬ q % 7 < 4 := of_decide_eq_false hc3
      refine ws_nil ?_
      refine ws_cons (ws_set 5 nd (ED.eq (ed_ix (ED.eq (ed_lst (eo_lst (ad_cons ed_str (ad_cons ed_str (ad_cons ed_str (ad_cons ed_str ad_nil)))))) (show _ = D.lst (opG4.map .str) from rfl)) (ed_bin (ed_bin (ed_var 4 rfl) ed_int (by walk_at "b2")) ed_int (by walk_at "b2")) (.l (at_getC (xs := opG4) (f := D.str) (i := q / 7 % 4) (a := "") (by show _ ∧ _ < (4 : Int); omega)))) (show _ = D.str (opS (sizI (q / 7 % 4).toNat)) from congrArg D.str (opS_get (by omega)))) ?_)
      walk_at "env"
      refine ws_cons (ws_set 6 nd (ed_bin (ed_bin (ed_var 4 rfl) ed_int (by walk_at "b2")) ed_int (by walk_at "b2")) ?_)
      walk_at "env"
      refine ws_cons (ws_if (TD.eq (td_cmp (ed_var 5 rfl) ed_str (by walk_at "c2")) (opS_open _)) (fun hc4 => ?_) (fun hc4 => ?_))
      · skip
        have ho := of_decide_eq_true hc4
        have hn9 : qxN q = max 1 (q / 28 % 4) := if_pos ho
        refine ws_cons (ws_set 6 nd (ed_callB (id := "max") (by rfl) B.«max» bb_max (ad_cons ed_int (ad_cons (ed_var 6 rfl) ad_nil)) (by walk_at "bc")) ?_)
        walk_at "env"
        refine ws_nil ?_
        refine ws_cons (ws_ret (ED.eq (ed_tup (ad_cons (ed_var 5 rfl) (ad_cons (ed_var 6 rfl) (ad_cons (ed_call G_law_qexpression_d0 (hr.mono (by decide)) (by rfl) (ad_cons (ed_var 0 rfl) (ad_cons (ed_bin (ed_bin ed_int (ed_var 1 rfl) (by walk_at "b2")) ed_int (by walk_at "b2")) (ad_cons (ed_bin (ed_var 2 rfl) ed_int (by walk_at "b2")) (ad_cons (ed_var 3 rfl) ad_nil)))) (by exact .mk c N _ _ hN hNl (by omega))) ad_nil)))) ?_) (Or.inl rfl))
        first | (rw [qEx_lay 1 hly]; rfl) | (rw [qEx_two hly (by rw [← hq]; exact h4), ← hq]; rfl) | (rw [qEx_siz hly (by rw [← hq]; exact h4), ← hq, hn9]; rfl) | (show _ = D.tup _; rw [qEx_siz hly (by rw [← hq]; exact h4), ← hq]; unfold Ex.e; rw [hn9])
      · skip
        have ho := of_decide_eq_false hc4
        have hn9 : qxN q = q / 28 % 4 := if_neg ho
        refine ws_nil ?_
        refine ws_cons (ws_ret (ED.eq (ed_tup (ad_cons (ed_var 5 rfl) (ad_cons (ed_var 6 rfl) (ad_cons (ed_call G_law_qexpression_d0 (hr.mono (by decide)) (by rfl) (ad_cons (ed_var 0 rfl) (ad_cons (ed_bin (ed_bin ed_int (ed_var 1 rfl) (by walk_at "b2")) ed_int (by walk_at "b2")) (ad_cons (ed_bin (ed_var 2 rfl) ed_int (by walk_at "b2")) (ad_cons (ed_var 3 rfl) ad_nil)))) (by exact .mk c N _ _ hN hNl (by omega))) ad_nil)))) ?_) (Or.inl rfl))
        first | (rw [qEx_lay 1 hly]; rfl) | (rw [qEx_two hly (by rw [← hq]; exact h4), ← hq]; rfl) | (rw [qEx_siz hly (by rw [← hq]; exact h4), ← hq, hn9]; rfl) | (show _ = D.tup _; rw [qEx_siz hly (by rw [← hq]; exact h4), ← hq]; unfold Ex.e; rw [hn9])
abbrev s_law_qexpression_d2 : Stmt := top 47
theorem sc_law_qexpression_d2 : FnScope ["draws", "at", "depth", "names", "draw", "kind", "n", "left", "right"] ["draws", "at", "depth", "names"] (defScope s_law_qexpression_d2) := ⟨rfl, rfl, rfl, by decide +kernel, rfl, by decide +kernel, by decide +kernel⟩
theorem ok_law_qexpression_d2 {f : Addr} {fd : FuncData} (F : Fun K "_law_qexpression" "_law_qexpression" s_law_qexpression_d2 f fd) (B : Bt mg) (KC : Kt K mg) (KL : Lt K mg) (WD : Zdt K w mg) (G_law_qexpression_d1 : Fn P w K mg base "_law_qexpression" 2 R_law_qexpression_d1) (G_law_qexpression_d1 : Fn P w K mg base "_law_qexpression" 2 R_law_qexpression_d1) :
    FnOk P w K mg base CX0 3 f fd ["draws", "at", "depth", "names"] (spR K R_law_qexpression_d2) := by
  refine fn_ok (k := 2) F sc_law_qexpression_d2 (fun ds d h => by cases h <;> rfl) fun ds d hR cdv A outer s H E hr => ?_
  have nd := sc_law_qexpression_d2.nd
  have hu := hr.units
  rcases hR with ⟨c, N, a, dp, hN, hNl, hd⟩
  obtain ⟨q, hq⟩ : ∃ q, q = dr c 90 (a % 90) := ⟨_, rfl⟩
  walk_at "en"
  refine ws_cons (ws_set 4 nd (ED.eq (ed_ix (ed_var 0 rfl) (ed_bin (ed_var 1 rfl) ed_int (by walk_at "b2")) (by walk_at "ix")) (show _ = (.int q) from by rw [hq])) ?_)
  walk_at "env"
  refine ws_cons (ws_if (td_tw (tw_or (td_cmp (ed_var 2 rfl) ed_int (by walk_at "c2")) (fun hb2 => (tw_or1 (td_cmp (ed_bin (ed_var 4 rfl) ed_int (by walk_at "b2")) ed_int (by walk_at "c2")))))) (fun hc1 => ?_) (fun hc1 => ?_))
  · skip
    have hly : dp < 2 ∨ dr c 90 (a % 90) % 7 = 6 := by rw [← hq]; simpa using hc1
    refine ws_cons (ws_ret (ED.eq (ed_tup (ad_cons ed_str (ad_cons (ED.eq (ed_ix (ED.eq (ed_var 3 rfl) rfl) (ed_bin (ed_bin (ed_var 4 rfl) ed_int (by walk_at "b2")) (ED.eq (ed_callB (id := "len") (by rfl) B.«len» bb_len (ad_cons (ed_var 3 rfl) ad_nil) (by walk_at "bc")) (show _ = (D.int (N.length : Int)) from by rw [List.length_map])) (by walk_at "b2")) (.l (at_getC (xs := N) (f := D.str) (i := q / 7 % (N.length : Int)) (a := "") ⟨Int.emod_nonneg _ (by omega), Int.emod_lt_of_pos _ (by omega)⟩))) (show _ = D.str (N.getD (dr c 90 (a % 90) / 7 % (N.length : Int)).toNat "") by rw [← hq])) ad_nil))) ?_) (Or.inl rfl))
    first | (rw [qEx_lay 2 hly]; rfl) | (rw [qEx_two hly (by rw [← hq]; exact h4), ← hq]; rfl) | (rw [qEx_siz hly (by rw [← hq]; exact h4), ← hq, hn9]; rfl) | (show _ = D.tup _; rw [qEx_siz hly (by rw [← hq]; exact h4), ← hq]; unfold Ex.e; rw [hn9])
  · skip
    have hly : ¬ (dp < 2 ∨ dr c 90 (a % 90) % 7 = 6) := by rw [← hq]; simpa using hc1
    have hq6 : ¬ q % 7 = 6 := fun z => hly (.inr (by rw [← hq]; exact z))
    refine ws_nil ?_
    refine ws_cons (ws_if (td_cmp (ed_bin (ed_var 4 rfl) ed_int (by walk_at "b2")) ed_int (by walk_at "c2")) (fun hc3 => ?_) (fun hc3 => ?_))
    · skip
      have h4 : q % 7 < 4 := of_decide_eq_true hc3
      refine ws_cons (ws_set 7 nd (ed_call G_law_qexpression_d1 (hr.mono (by decide)) (by rfl) (ad_cons (ed_var 0 rfl) (ad_cons (ed_bin (ed_bin ed_int (ed_var 1 rfl) (by walk_at "b2")) ed_int (by walk_at "b2")) (ad_cons (ed_bin (ed_var 2 rfl) ed_int (by walk_at "b2")) (ad_cons (ed_var 3 rfl) ad_nil)))) (by exact .mk c N _ _ hN hNl (by omega))) ?_)
      walk_at "env"
      refine ws_cons (ws_set 8 nd (ed_call G_law_qexpression_d1 (hr.mono (by decide)) (by rfl) (ad_cons (ed_var 0 rfl) (ad_cons (ed_bin (ed_bin ed_int (ed_var 1 rfl) (by walk_at "b2")) ed_int (by walk_at "b2")) (ad_cons (ed_bin (ed_bin (ed_var 2 rfl) ed_int (by walk_at "b2")) (ed_bin (ed_bin (ed_var 4 rfl) ed_int (by walk_at "b2")) ed_int (by walk_at "b2")) (by walk_at "b2")) (ad_cons (ed_var 3 rfl) ad_nil)))) (by exact .mk c N _ _ hN hNl (by omega))) ?_)
      walk_at "env"
      refine ws_cons (ws_ret (ED.eq (ed_tup (ad_cons (ED.eq (ed_ix (ED.eq (ed_lst (eo_lst (ad_cons ed_str (ad_cons ed_str (ad_cons ed_str (ad_cons ed_str ad_nil)))))) (show _ = D.lst (opL4.map .str) from rfl)) (ed_bin (ed_var 4 rfl) ed_int (by walk_at "b2")) (.l (at_getC (xs := opL4) (f := D.str) (i := q % 7) (a := "") (by show _ ∧ _ < (4 : Int); omega)))) (show _ = D.str (opP (Fin.ofNat 4 (q % 7).toNat)) from congrArg D.str (opP_get (by omega)))) (ad_cons (ed_var 7 rfl) (ad_cons (ed_var 8 rfl) ad_nil)))) ?_) (Or.inl rfl))
      first | (rw [qEx_lay 2 hly]; rfl) | (rw [qEx_two hly (by rw [← hq]; exact h4), ← hq]; rfl) | (rw [qEx_siz hly (by rw [← hq]; exact h4), ← hq, hn9]; rfl) | (show _ = D.tup _; rw [qEx_siz hly (by rw [← hq]; exact h4), ← hq]; unfold Ex.e; rw [hn9])
    · skip
      have h4 : ¬ q % 7 < 4 := of_decide_eq_false hc3
      refine ws_nil ?_
      refine ws_cons (ws_set 5 nd (ED.eq (ed_ix (ED.eq (ed_lst (eo_lst (ad_cons ed_str (ad_cons ed_str (ad_cons ed_str (ad_cons ed_str ad_nil)))))) (show _ = D.lst (opG4.map .str) from rfl)) (ed_bin (ed_bin (ed_var 4 rfl) ed_int (by walk_at "b2")) ed_int (by walk_at "b2")) (.l (at_getC (xs := opG4) (f := D.str) (i := q / 7 % 4) (a := "") (by show _ ∧ _ < (4 : Int); omega)))) (show _ = D.str (opS (sizI (q / 7 % 4).toNat)) from congrArg D.str (opS_get (by omega)))) ?_)
      walk_at "env"
      refine ws_cons (ws_set 6 nd (ed_bin (ed_bin (ed_var 4 rfl) ed_int (by walk_at "b2")) ed_int (by walk_at "b2")) ?_)
      walk_at "env"
      refine ws_cons (ws_if (TD.eq (td_cmp (ed_var 5 rfl) ed_str (by walk_at "c2")) (opS_open _)) (fun hc4 => ?_) (fun hc4 => ?_))
      · skip
        have ho := of_decide_eq_true hc4
        have hn9 : qxN q = max 1 (q / 28 % 4) := if_pos ho
        refine ws_cons (ws_set 6 nd (ed_callB (id := "max") (by rfl) B.«max» bb_max (ad_cons ed_int (ad_cons (ed_var 6 rfl) ad_nil)) (by walk_at "bc")) ?_)
        walk_at "env"
        refine ws_nil ?_
        refine ws_cons (ws_ret (ED.eq (ed_tup (ad_cons (ed_var 5 rfl) (ad_cons (ed_var 6 rfl) (ad_cons (ed_call G_law_qexpression_d1 (hr.mono (by decide)) (by rfl) (ad_cons (ed_var 0 rfl) (ad_cons (ed_bin (ed_bin ed_int (ed_var 1 rfl) (by walk_at "b2")) ed_int (by walk_at "b2")) (ad_cons (ed_bin (ed_var 2 rfl) ed_int (by walk_at "b2")) (ad_cons (ed_var 3 rfl) ad_nil)))) (by exact .mk c N _ _ hN hNl (by omega))) ad_nil)))) ?_) (Or.inl rfl))
        first | (rw [qEx_lay 2 hly]; rfl) | (rw [qEx_two hly (by rw [← hq]; exact h4), ← hq]; rfl) | (rw [qEx_siz hly (by rw [← hq]; exact h4), ← hq, hn9]; rfl) | (show _ = D.tup _; rw [qEx_siz hly (by rw [← hq]; exact h4), ← hq]; unfold Ex.e; rw [hn9])
      · skip
        have ho := of_decide_eq_false hc4
        have hn9 : qxN q = q / 28 % 4 := if_neg ho
        refine ws_nil ?_
        refine ws_cons (ws_ret (ED.eq (ed_tup (ad_cons (ed_var 5 rfl) (ad_cons (ed_var 6 rfl) (ad_cons (ed_call G_law_qexpression_d1 (hr.mono (by decide)) (by rfl) (ad_cons (ed_var 0 rfl) (ad_cons (ed_bin (ed_bin ed_int (ed_var 1 rfl) (by walk_at "b2")) ed_int (by walk_at "b2")) (ad_cons (ed_bin (ed_var 2 rfl) ed_int (by walk_at "b2")) (ad_cons (ed_var 3 rfl) ad_nil)))) (by exact .mk c N _ _ hN hNl (by omega))) ad_nil)))) ?_) (Or.inl rfl))
        first | (rw [qEx_lay 2 hly]; rfl) | (rw [qEx_two hly (by rw [← hq]; exact h4), ← hq]; rfl) | (rw [qEx_siz hly (by rw [← hq]; exact h4), ← hq, hn9]; rfl) | (show _ = D.tup _; rw [qEx_siz hly (by rw [← hq]; exact h4), ← hq]; unfold Ex.e; rw [hn9])
abbrev s_law_qexpression_d3 : Stmt := top 47
theorem sc_law_qexpression_d3 : FnScope ["draws", "at", "depth", "names", "draw", "kind", "n", "left", "right"] ["draws", "at", "depth", "names"] (defScope s_law_qexpression_d3) := ⟨rfl, rfl, rfl, by decide +kernel, rfl, by decide +kernel, by decide +kernel⟩
theorem ok_law_qexpression_d3 {f : Addr} {fd : FuncData} (F : Fun K "_law_qexpression" "_law_qexpression" s_law_qexpression_d3 f fd) (B : Bt mg) (KC : Kt K mg) (KL : Lt K mg) (WD : Zdt K w mg) (G_law_qexpression_d2 : Fn P w K mg base "_law_qexpression" 3 R_law_qexpression_d2) (G_law_qexpression_d2 : Fn P w K mg base "_law_qexpression" 3 R_law_qexpression_d2) :
    FnOk P w K mg base CX0 4 f fd ["draws", "at", "depth", "names"] (spR K R_law_qexpression_d3) := by
  refine fn_ok (k := 3) F sc_law_qexpression_d3 (fun ds d h => by cases h <;> rfl) fun ds d hR cdv A outer s H E hr => ?_
  have nd := sc_law_qexpression_d3.nd
  have hu := hr.units
  rcases hR with ⟨c, N, a, dp, hN, hNl, hd⟩
  obtain ⟨q, hq⟩ : ∃ q, q = dr c 90 (a % 90) := ⟨_, rfl⟩
  walk_at "en"
  refine ws_cons (ws_set 4 nd (ED.eq (ed_ix (ed_var 0 rfl) (ed_bin (ed_var 1 rfl) ed_int (by walk_at "b2")) (by walk_at "ix")) (show _ = (.int q) from by rw [hq])) ?_)
  walk_at "env"
  refine ws_cons (ws_if (td_tw (tw_or (td_cmp (ed_var 2 rfl) ed_int (by walk_at "c2")) (fun hb2 => (tw_or1 (td_cmp (ed_bin (ed_var 4 rfl) ed_int (by walk_at "b2")) ed_int (by walk_at "c2")))))) (fun hc1 => ?_) (fun hc1 => ?_))
  · skip
    have hly : dp < 2 ∨ dr c 90 (a % 90) % 7 = 6 := by rw [← hq]; simpa using hc1
    refine ws_cons (ws_ret (ED.eq (ed_tup (ad_cons ed_str (ad_cons (ED.eq (ed_ix (ED.eq (ed_var 3 rfl) rfl) (ed_bin (ed_bin (ed_var 4 rfl) ed_int (by walk_at "b2")) (ED.eq (ed_callB (id := "len") (by rfl) B.«len» bb_len (ad_cons (ed_var 3 rfl) ad_nil) (by walk_at "bc")) (show _ = (D.int (N.length : Int)) from by rw [List.length_map])) (by walk_at "b2")) (.l (at_getC (xs := N) (f := D.str) (i := q / 7 % (N.length : Int)) (a := "") ⟨Int.emod_nonneg _ (by omega), Int.emod_lt_of_pos _ (by omega)⟩))) (show _ = D.str (N.getD (dr c 90 (a % 90) / 7 % (N.length : Int)).toNat "") by rw [← hq])) ad_nil))) ?_) (Or.inl rfl))
    first | (rw [qEx_lay 3 hly]; rfl) | (rw [qEx_two hly (by rw [← hq]; exact h4), ← hq]; rfl) | (rw [qEx_siz hly (by rw [← hq]; exact h4), ← hq, hn9]; rfl) | (show _ = D.tup _; rw [qEx_siz hly (by rw [← hq]; exact h4), ← hq]; unfold Ex.e; rw [hn9])
  · skip
    have hly : ¬ (dp < 2 ∨ dr c 90 (a % 90) % 7 = 6) := by rw [← hq]; simpa using hc1
    have hq6 : ¬ q % 7 = 6 := fun z => hly (.inr (by rw [← hq]; exact z))
    refine ws_nil ?_
    refine ws_cons (ws_if (td_cmp (ed_bin (ed_var 4 rfl) ed_int (by walk_at "b2")) ed_int (by walk_at "c2")) (fun hc3 => ?_) (fun hc3 => ?_))
    · skip
      have h4 : q % 7 < 4 := of_decide_eq_true hc3
      refine ws_cons (ws_set 7 nd (ed_call G_law_qexpression_d2 (hr.mono (by decide)) (by rfl) (ad_cons (ed_var 0 rfl) (ad_cons (ed_bin (ed_bin ed_int (ed_var 1 rfl) (by walk_at "b2")) ed_int (by walk_at "b2")) (ad_cons (ed_bin (ed_var 2 rfl) ed_int (by walk_at "b2")) (ad_cons (ed_var 3 rfl) ad_nil)))) (by exact .mk c N _ _ hN hNl (by omega))) ?_)
      walk_at "env"
      refine ws_cons (ws_set 8 nd (ed_call G_law_qexpression_d2 (hr.mono (by decide)) (by rfl) (ad_cons (ed_var 0 rfl) (ad_cons (ed_bin (ed_bin ed_int (ed_var 1 rfl) (by walk_at "b2")) ed_int (by walk_at "b2")) (ad_cons (ed_bin (ed_bin (ed_var 2 rfl) ed_int (by walk_at "b2")) (ed_bin (ed_bin (ed_var 4 rfl) ed_int (by walk_at "b2")) ed_int (by walk_at "b2")) (by walk_at "b2")) (ad_cons (ed_var 3 rfl) ad_nil)))) (by exact .mk c N _ _ hN hNl (by omega))) ?_)
      walk_at "env"
      refine ws_cons (ws_ret (ED.eq (ed_tup (ad_cons (ED.eq (ed_ix (ED.eq (ed_lst (eo_lst (ad_cons ed_str (ad_cons ed_str (ad_cons ed_str (ad_cons ed_str ad_nil)))))) (show _ = D.lst (opL4.map .str) from rfl)) (ed_bin (ed_var 4 rfl) ed_int (by walk_at "b2")) (.l (at_getC (xs := opL4) (f := D.str) (i := q % 7) (a := "") (by show _ ∧ _ < (4 : Int); omega)))) (show _ = D.str (opP (Fin.ofNat 4 (q % 7).toNat)) from congrArg D.str (opP_get (by omega)))) (ad_cons (ed_var 7 rfl) (ad_cons (ed_var 8 rfl) ad_nil)))) ?_) (Or.inl rfl))
      first | (rw [qEx_lay 3 hly]; rfl) | (rw [qEx_two hly (by rw [← hq]; exact h4), ← hq]; rfl) | (rw [qEx_siz hly (by rw [← hq]; exact h4), ← hq, hn9]; rfl) | (show _ = D.tup _; rw [qEx_siz hly (by rw [← hq]; exact h4), ← hq]; unfold Ex.e; rw [hn9])
    · skip
      have h4 : ¬ q % 7 < 4 := of_decide_eq_false hc3
      refine ws_nil ?_
      refine ws_cons (ws_set 5 nd (ED.eq (ed_ix (ED.eq (ed_lst (eo_lst (ad_cons ed_str (ad_cons ed_str (ad_cons ed_str (ad_cons ed_str ad_nil)))))) (show _ = D.lst (opG4.map .str) from rfl)) (ed_bin (ed_bin (ed_var 4 rfl) ed_int (by walk_at "b2")) ed_int (by walk_at "b2")) (.l (at_getC (xs := opG4) (f := D.str) (i := q / 7 % 4) (a := "") (by show _ ∧ _ < (4 : Int); omega)))) (show _ = D.str (opS (sizI (q / 7 % 4).toNat)) from congrArg D.str (opS_get (by omega)))) ?_)
      walk_at "env"
      refine ws_cons (ws_set 6 nd (ed_bin (ed_bin (ed_var 4 rfl) ed_int (by walk_at "b2")) ed_int (by walk_at "b2")) ?_)
      walk_at "env"
      refine ws_cons (ws_if (TD.eq (td_cmp (ed_var 5 rfl) ed_str (by walk_at "c2")) (opS_open _)) (fun hc4 => ?_) (fun hc4 => ?_))
      · skip
        have ho := of_decide_eq_true hc4
        have hn9 : qxN q = max 1 (q / 28 % 4) := if_pos ho
        refine ws_cons (ws_set 6 nd (ed_callB (id := "max") (by rfl) B.«max» bb_max (ad_cons ed_int (ad_cons (ed_var 6 rfl) ad_nil)) (by walk_at "bc")) ?_)
        walk_at "env"
        refine ws_nil ?_
        refine ws_cons (ws_ret (ED.eq (ed_tup (ad_cons (ed_var 5 rfl) (ad_cons (ed_var 6 rfl) (ad_cons (ed_call G_law_qexpression_d2 (hr.mono (by decide)) (by rfl) (ad_cons (ed_var 0 rfl) (ad_cons (ed_bin (ed_bin ed_int (ed_var 1 rfl) (by walk_at "b2")) ed_int (by walk_at "b2")) (ad_cons (ed_bin (ed_var 2 rfl) ed_int (by walk_at "b2")) (ad_cons (ed_var 3 rfl) ad_nil)))) (by exact .mk c N _ _ hN hNl (by omega))) ad_nil)))) ?_) (Or.inl rfl))
        first | (rw [qEx_lay 3 hly]; rfl) | (rw [qEx_two hly (by rw [← hq]; exact h4), ← hq]; rfl) | (rw [qEx_siz hly (by rw [← hq]; exact h4), ← hq, hn9]; rfl) | (show _ = D.tup _; rw [qEx_siz hly (by rw [← hq]; exact h4), ← hq]; unfold Ex.e; rw [hn9])
      · skip
        have ho := of_decide_eq_false hc4
        have hn9 : qxN q = q / 28 % 4 := if_neg ho
        refine ws_nil ?_
        refine ws_cons (ws_ret (ED.eq (ed_tup (ad_cons (ed_var 5 rfl) (ad_cons (ed_var 6 rfl) (ad_cons (ed_call G_law_qexpression_d2 (hr.mono (by decide)) (by rfl) (ad_cons (ed_var 0 rfl) (ad_cons (ed_bin (ed_bin ed_int (ed_var 1 rfl) (by walk_at "b2")) ed_int (by walk_at "b2")) (ad_cons (ed_bin (ed_var 2 rfl) ed_int (by walk_at "b2")) (ad_cons (ed_var 3 rfl) ad_nil)))) (by exact .mk c N _ _ hN hNl (by omega))) ad_nil)))) ?_) (Or.inl rfl))
        first | (rw [qEx_lay 3 hly]; rfl) | (rw [qEx_two hly (by rw [← hq]; exact h4), ← hq]; rfl) | (rw [qEx_siz hly (by rw [← hq]; exact h4), ← hq, hn9]; rfl) | (show _ = D.tup _; rw [qEx_siz hly (by rw [← hq]; exact h4), ← hq]; unfold Ex.e; rw [hn9])
abbrev s_law_qexpression_d4 : Stmt := top 47
theorem sc_law_qexpression_d4 : FnScope ["draws", "at", "depth", "names", "draw", "kind", "n", "left", "right"] ["draws", "at", "depth", "names"] (defScope s_law_qexpression_d4) := ⟨rfl, rfl, rfl, by decide +kernel, rfl, by decide +kernel, by decide +kernel⟩
theorem ok_law_qexpression_d4 {f : Addr} {fd : FuncData} (F : Fun K "_law_qexpression" "_law_qexpression" s_law_qexpression_d4 f fd) (B : Bt mg) (KC : Kt K mg) (KL : Lt K mg) (WD : Zdt K w mg) (G_law_qexpression_d3 : Fn P w K mg base "_law_qexpression" 4 R_law_qexpression_d3) (G_law_qexpression_d3 : Fn P w K mg base "_law_qexpression" 4 R_law_qexpression_d3) :
    FnOk P w K mg base CX0 5 f fd ["draws", "at", "depth", "names"] (spR K R_law_qexpression_d4) := by
  refine fn_ok (k := 4) F sc_law_qexpression_d4 (fun ds d h => by cases h <;> rfl) fun ds d hR cdv A outer s H E hr => ?_
  have nd := sc_law_qexpression_d4.nd
  have hu := hr.units
  rcases hR with ⟨c, N, a, dp, hN, hNl, hd⟩
  obtain ⟨q, hq⟩ : ∃ q, q = dr c 90 (a % 90) := ⟨_, rfl⟩
  walk_at "en"
  refine ws_cons (ws_set 4 nd (ED.eq (ed_ix (ed_var 0 rfl) (ed_bin (ed_var 1 rfl) ed_int (by walk_at "b2")) (by walk_at "ix")) (show _ = (.int q) from by rw [hq])) ?_)
  walk_at "env"
  refine ws_cons (ws_if (td_tw (tw_or (td_cmp (ed_var 2 rfl) ed_int (by walk_at "c2")) (fun hb2 => (tw_or1 (td_cmp (ed_bin (ed_var 4 rfl) ed_int (by walk_at "b2")) ed_int (by walk_at "c2")))))) (fun hc1 => ?_) (fun hc1 => ?_))
  · skip
    have hly : dp < 2 ∨ dr c 90 (a % 90) % 7 = 6 := by rw [← hq]; simpa using hc1
    refine ws_cons (ws_ret (ED.eq (ed_tup (ad_cons ed_str (ad_cons (ED.eq (ed_ix (ED.eq (ed_var 3 rfl) rfl) (ed_bin (ed_bin (ed_var 4 rfl) ed_int (by walk_at "b2")) (ED.eq (ed_callB (id := "len") (by rfl) B.«len» bb_len (ad_cons (ed_var 3 rfl) ad_nil) (by walk_at "bc")) (show _ = (D.int (N.length : Int)) from by rw [List.length_map])) (by walk_at "b2")) (.l (at_getC (xs := N) (f := D.str) (i := q / 7 % (N.length : Int)) (a := "") ⟨Int.emod_nonneg _ (by omega), Int.emod_lt_of_pos _ (by omega)⟩))) (show _ = D.str (N.getD (dr c 90 (a % 90) / 7 % (N.length : Int)).toNat "") by rw [← hq])) ad_nil))) ?_) (Or.inl rfl))
    first | (rw [qEx_lay 4 hly]; rfl) | (rw [qEx_two hly (by rw [← hq]; exact h4), ← hq]; rfl) | (rw [qEx_siz hly (by rw [← hq]; exact h4), ← hq, hn9]; rfl) | (show _ = D.tup _; rw [qEx_siz hly (by rw [← hq]; exact h4), ← hq]; unfold Ex.e; rw [hn9])
  · skip
    have hly : ¬ (dp < 2 ∨ dr c 90 (a % 90) % 7 = 6) := by rw [← hq]; simpa using hc1
    have hq6 : ¬ q % 7 = 6 := fun z => hly (.inr (by rw [← hq]; exact z))
    refine ws_nil ?_
    refine ws_cons (ws_if (td_cmp (ed_bin (ed_var 4 rfl) ed_int (by walk_at "b2")) ed_int (by walk_at "c2")) (fun hc3 => ?_) (fun hc3 => ?_))
    · skip
      have h4 : q % 7 < 4 := of_decide_eq_true hc3
      refine ws_cons (ws_set 7 nd (ed_call G_law_qexpression_d3 (hr.mono (by decide)) (by rfl) (ad_cons (ed_var 0 rfl) (ad_cons (ed_bin (ed_bin ed_int (ed_var 1 rfl) (by walk_at "b2")) ed_int (by walk_at "b2")) (ad_cons (ed_bin (ed_var 2 rfl) ed_int (by walk_at "b2")) (ad_cons (ed_var 3 rfl) ad_nil)))) (by exact .mk c N _ _ hN hNl (by omega))) ?_)
      walk_at "env"
      refine ws_cons (ws_set 8 nd (ed_call G_law_qexpression_d3 (hr.mono (by decide)) (by rfl) (ad_cons (ed_var 0 rfl) (ad_cons (ed_bin (ed_bin ed_int (ed_var 1 rfl) (by walk_at "b2")) ed_int (by walk_at "b2")) (ad_cons (ed_bin (ed_bin (ed_var 2 rfl) ed_int (by walk_at "b2")) (ed_bin (ed_bin (ed_var 4 rfl) ed_int (by walk_at "b2")) ed_int (by walk_at "b2")) (by walk_at "b2")) (ad_cons (ed_var 3 rfl) ad_nil)))) (by exact .mk c N _ _ hN hNl (by omega))) ?_)
      walk_at "env"
      refine ws_cons (ws_ret (ED.eq (ed_tup (ad_cons (ED.eq (ed_ix (ED.eq (ed_lst (eo_lst (ad_cons ed_str (ad_cons ed_str (ad_cons ed_str (ad_cons ed_str ad_nil)))))) (show _ = D.lst (opL4.map .str) from rfl)) (ed_bin (ed_var 4 rfl) ed_int (by walk_at "b2")) (.l (at_getC (xs := opL4) (f := D.str) (i := q % 7) (a := "") (by show _ ∧ _ < (4 : Int); omega)))) (show _ = D.str (opP (Fin.ofNat 4 (q % 7).toNat)) from congrArg D.str (opP_get (by omega)))) (ad_cons (ed_var 7 rfl) (ad_cons (ed_var 8 rfl) ad_nil)))) ?_) (Or.inl rfl))
      first | (rw [qEx_lay 4 hly]; rfl) | (rw [qEx_two hly (by rw [← hq]; exact h4), ← hq]; rfl) | (rw [qEx_siz hly (by rw [← hq]; exact h4), ← hq, hn9]; rfl) | (show _ = D.tup _; rw [qEx_siz hly (by rw [← hq]; exact h4), ← hq]; unfold Ex.e; rw [hn9])
    · skip
      have h4 : ¬ q % 7 < 4 := of_decide_eq_false hc3
      refine ws_nil ?_
      refine ws_cons (ws_set 5 nd (ED.eq (ed_ix (ED.eq (ed_lst (eo_lst (ad_cons ed_str (ad_cons ed_str (ad_cons ed_str (ad_cons ed_str ad_nil)))))) (show _ = D.lst (opG4.map .str) from rfl)) (ed_bin (ed_bin (ed_var 4 rfl) ed_int (by walk_at "b2")) ed_int (by walk_at "b2")) (.l (at_getC (xs := opG4) (f := D.str) (i := q / 7 % 4) (a := "") (by show _ ∧ _ < (4 : Int); omega)))) (show _ = D.str (opS (sizI (q / 7 % 4).toNat)) from congrArg D.str (opS_get (by omega)))) ?_)
      walk_at "env"
      refine ws_cons (ws_set 6 nd (ed_bin (ed_bin (ed_var 4 rfl) ed_int (by walk_at "b2")) ed_int (by walk_at "b2")) ?_)
      walk_at "env"
      refine ws_cons (ws_if (TD.eq (td_cmp (ed_var 5 rfl) ed_str (by walk_at "c2")) (opS_open _)) (fun hc4 => ?_) (fun hc4 => ?_))
      · skip
        have ho := of_decide_eq_true hc4
        have hn9 : qxN q = max 1 (q / 28 % 4) := if_pos ho
        refine ws_cons (ws_set 6 nd (ed_callB (id := "max") (by rfl) B.«max» bb_max (ad_cons ed_int (ad_cons (ed_var 6 rfl) ad_nil)) (by walk_at "bc")) ?_)
        walk_at "env"
        refine ws_nil ?_
        refine ws_cons (ws_ret (ED.eq (ed_tup (ad_cons (ed_var 5 rfl) (ad_cons (ed_var 6 rfl) (ad_cons (ed_call G_law_qexpression_d3 (hr.mono (by decide)) (by rfl) (ad_cons (ed_var 0 rfl) (ad_cons (ed_bin (ed_bin ed_int (ed_var 1 rfl) (by walk_at "b2")) ed_int (by walk_at "b2")) (ad_cons (ed_bin (ed_var 2 rfl) ed_int (by walk_at "b2")) (ad_cons (ed_var 3 rfl) ad_nil)))) (by exact .mk c N _ _ hN hNl (by omega))) ad_nil)))) ?_) (Or.inl rfl))
        first | (rw [qEx_lay 4 hly]; rfl) | (rw [qEx_two hly (by rw [← hq]; exact h4), ← hq]; rfl) | (rw [qEx_siz hly (by rw [← hq]; exact h4), ← hq, hn9]; rfl) | (show _ = D.tup _; rw [qEx_siz hly (by rw [← hq]; exact h4), ← hq]; unfold Ex.e; rw [hn9])
      · skip
        have ho := of_decide_eq_false hc4
        have hn9 : qxN q = q / 28 % 4 := if_neg ho
        refine ws_nil ?_
        refine ws_cons (ws_ret (ED.eq (ed_tup (ad_cons (ed_var 5 rfl) (ad_cons (ed_var 6 rfl) (ad_cons (ed_call G_law_qexpression_d3 (hr.mono (by decide)) (by rfl) (ad_cons (ed_var 0 rfl) (ad_cons (ed_bin (ed_bin ed_int (ed_var 1 rfl) (by walk_at "b2")) ed_int (by walk_at "b2")) (ad_cons (ed_bin (ed_var 2 rfl) ed_int (by walk_at "b2")) (ad_cons (ed_var 3 rfl) ad_nil)))) (by exact .mk c N _ _ hN hNl (by omega))) ad_nil)))) ?_) (Or.inl rfl))
        first | (rw [qEx_lay 4 hly]; rfl) | (rw [qEx_two hly (by rw [← hq]; exact h4), ← hq]; rfl) | (rw [qEx_siz hly (by rw [← hq]; exact h4), ← hq, hn9]; rfl) | (show _ = D.tup _; rw [qEx_siz hly (by rw [← hq]; exact h4), ← hq]; unfold Ex.e; rw [hn9])
abbrev s_law_qdefinitions : Stmt := top 48
theorem sc_law_qdefinitions : FnScope ["cell", "most", "depth", "draws", "names", "found", "k", "name"] ["cell", "most", "depth"] (defScope s_law_qdefinitions) := ⟨rfl, rfl, rfl, by decide +kernel, rfl, by decide +kernel, by decide +kernel⟩
theorem ok_law_qdefinitions {f : Addr} {fd : FuncData} (F : Fun K "_law_qdefinitions" "_law_qdefinitions" s_law_qdefinitions f fd) (B : Bt mg) (KC : Kt K mg) (KL : Lt K mg) (WD : Zdt K w mg) (G_law_draws : Fn P w K mg base "_law_draws" 1 R_law_draws) (G_law_layers : Fn P w K mg base "_law_layers" 1 R_law_layers) (G_law_name : Fn P w K mg base "_law_name" 1 R_law_name) (G_law_qexpression_d4 : Fn P w K mg base "_law_qexpression" 5 R_law_qexpression_d4) (G_law_qexpression_d4 : Fn P w K mg base "_law_qexpression" 5 R_law_qexpression_d4) :
    FnOk P w K mg base CX0 6 f fd ["cell", "most", "depth"] (spR K R_law_qdefinitions) := by
  refine fn_ok (k := 5) F sc_law_qdefinitions (fun ds d h => by cases h <;> rfl) fun ds d hR cdv A outer s H E hr => ?_
  have nd := sc_law_qdefinitions.nd
  have hu := hr.units
  rcases hR with ⟨c, most, dp, hm, hd⟩
  obtain ⟨n9, hn9⟩ : ∃ n : Int, n = dr c 90 89 % (most + 1) := ⟨_, rfl⟩
  have hnb : 0 ≤ n9 ∧ n9 ≤ 50 := by have := Int.emod_lt_of_pos (dr c 90 89) (b := most + 1) (by omega); have := Int.emod_nonneg (dr c 90 89) (b := most + 1) (by omega); omega
  walk_at "en"
  refine ws_cons (ws_set 3 nd (ed_call G_law_draws (hr.mono (by decide)) (by rfl) (ad_cons (ed_var 0 rfl) (ad_cons ed_int ad_nil)) (by exact .mk _ _ (by omega) (by omega))) ?_)
  walk_at "env"
  refine ws_cons (ws_set 4 nd (ed_call0 G_law_layers (hr.mono (by decide)) (by rfl) (by walk_at "mk")) ?_)
  walk_at "env"
  refine ws_cons (ws_setO 5 nd (eo_lst ad_nil) ?_)
  walk_at "env"
  refine ws_cons (ws_forU (List.range (n9.toNat)) (fun (i : Nat) => D.int (i : Int)) rfl (id_range1 (by rfl) B.«range» (ED.eq (ed_bin (ed_ix (ed_var 3 rfl) ed_int (by walk_at "ix")) (ed_bin (ed_var 1 rfl) ed_int (by walk_at "b2")) (by walk_at "b2")) (show _ = (D.int n9) from by rw [hn9])) (by walk_at "side")) (by exact rngD0 _) (U := Sl × Sl) (fun i u => [(4, .sh (.lst ((qNs c i).map .str))), (5, .ow (.lst ((qDfs5 c dp i).map Df.e))), (6, u.1), (7, u.2)]) (fun r => (r.getD 6 .no, r.getD 7 .no)) (fun _ => True) (rfl) (True.intro) ?_ ?_)
  · intro i0 t u0 hx0 hP0
    obtain rfl : i0 = t := by
      obtain ⟨hl, he⟩ := List.getElem?_eq_some_iff.mp hx0
      rw [List.getElem_range] at he; exact he
    have hi0 : i0 < n9.toNat := by have := (List.getElem?_eq_some_iff.mp hx0).1; rwa [List.length_range] at this
    have hln := qNs_len c i0
    have hlf := qDfs5_len c dp i0
    refine ⟨_, _, (dg_name 6 nd), ?_⟩
    walk_at "env"
    refine ws_cons (ws_set 7 nd (ED.eq (ed_bin (ed_bin (ed_sliceS (ed_call G_law_name (hr.mono (by decide)) (by rfl) (ad_cons (ed_ix (ed_var 3 rfl) (ed_var 6 rfl) (by walk_at "ix")) ad_nil) (by exact .mk _ (dr_lo _ _ _).1)) (nmOf_len _) no_part (some_part ed_int)) ed_str (b2_addS (e1_len _))) (ed_callT (T := "str") (by rfl) B.«str» bb_str (ad_cons (ed_var 6 rfl) ad_nil) (bc_strI (log_small hi0 (by omega)))) (b2_addS (e2_len _ (by omega)))) (show _ = D.str (qNm9 c i0) by rw [cutE]; rfl)) ?_)
    walk_at "env"
    refine ws_cons (ws_append 5 rfl (ed_tup (ad_cons (ed_var 7 rfl) (ad_cons (ed_call G_law_qexpression_d4 (hr.mono (by decide)) (by rfl) (ad_cons (ed_var 3 rfl) (ad_cons (ed_bin (ed_bin ed_int (ed_var 6 rfl) (by walk_at "b2")) (ed_bin (ed_ix (ed_var 3 rfl) ed_int (by walk_at "ix")) ed_int (by walk_at "b2")) (by walk_at "b2")) (ad_cons (ed_bin ed_int (ed_bin (ed_bin (ed_ix (ed_var 3 rfl) (ed_var 6 rfl) (by walk_at "ix")) (ed_ix (ed_var 3 rfl) ed_int (by walk_at "ix")) (by walk_at "b2")) (ed_var 2 rfl) (by walk_at "b2")) (by walk_at "b2")) (ad_cons (ed_var 4 rfl) ad_nil)))) (by exact .mk c (qNs c i0) _ _ (by rw [qNs_len]; omega) (by rw [qNs_len]; omega) (by have := Int.emod_lt_of_pos (dr c 90 (i0 : Int) + dr c 90 87) (b := dp) (by omega); omega))) ad_nil))) (by rw [List.length_map, sizeLine_eq]; omega) ?_ (fun h => ps_expr (pe_bm PySem.F.plainAttrs_list PySem.F.slot_list_append PySem.F.type_list_append mt_append (pv 5) h)))
    walk_at "env"
    refine ws_cons (ws_set 4 nd (ED.eq (ed_lst (eo_cat (ed_var 4 rfl) (ed_lst (eo_lst (ad_cons (ed_var 7 rfl) ad_nil))) (by walk_at "side"))) (show _ = (.lst ((qNs c (i0 + 1)).map .str)) from by rw [qNs_succ, List.map_append]; rfl)) ?_)
    walk_at "env"
    refine ws_nil ?_
    refine ⟨?_, True.intro⟩
    rw [qDfs5_succ, List.map_append]
    rfl
  · intro u0 hP0
    walk_at "env"
    rw [List.length_range]
    refine ws_share 5 rfl ?_
    walk_at "env"
    refine ws_cons (ws_ret (ED.eq (ed_var 5 rfl) ?_) (Or.inl rfl))
    rw [← hn9]
abbrev s_law_qrule : Stmt := top 49
theorem sc_law_qrule : FnScope ["draw", "more", "names", "kind", "at", "other", "n"] ["draw", "more", "names"] (defScope s_law_qrule) := ⟨rfl, rfl, rfl, by decide +kernel, rfl, by decide +kernel, by decide +kernel⟩
theorem ok_law_qrule {f : Addr} {fd : FuncData} (F : Fun K "_law_qrule" "_law_qrule" s_law_qrule f fd) (B : Bt mg) (KC : Kt K mg) (KL : Lt K mg) (WD : Zdt K w mg)  :
    FnOk P w K mg base CX0 1 f fd ["draw", "more", "names"] (spR K R_law_qrule) := by
  refine fn_ok (k := 0) F sc_law_qrule (fun ds d h => by cases h <;> rfl) fun ds d hR cdv A outer s H E hr => ?_
  have nd := sc_law_qrule.nd
  have hu := hr.units
  rcases hR with ⟨N, q, m, hN⟩
  obtain ⟨k, hk⟩ : ∃ k, k = qKi q := ⟨_, rfl⟩
  have a1 := Int.emod_nonneg (q / 7) (b := (N.length : Int)) (by omega)
  have a2 := Int.emod_lt_of_pos (q / 7) (b := (N.length : Int)) (by omega)
  walk_at "en"
  refine ws_cons (ws_set 3 nd (ED.eq (ed_ix (ED.eq (ed_lst (eo_lst (ad_cons ed_str (ad_cons ed_str (ad_cons ed_str (ad_cons ed_str (ad_cons ed_str (ad_cons ed_str (ad_cons ed_str ad_nil))))))))) (show _ = D.lst (kinD.map .str) from rfl)) (ed_bin (ed_var 0 rfl) ed_int (by walk_at "b2")) (.l (at_getC (xs := kinD) (f := D.str) (i := q % 7) (a := "") (by show _ ∧ _ < (7 : Int); omega)))) (show _ = D.str k by rw [hk]; rfl)) ?_)
  walk_at "env"
  refine ws_cons (ws_set 4 nd (ed_bin (ed_bin (ed_var 0 rfl) ed_int (by walk_at "b2")) (ED.eq (ed_callB (id := "len") (by rfl) B.«len» bb_len (ad_cons (ed_var 2 rfl) ad_nil) (by walk_at "bc")) (show _ = (D.int (N.length : Int)) from by rw [List.length_map])) (by walk_at "b2")) ?_)
  walk_at "env"
  refine ws_cons (ws_set 5 nd (ED.eq (ed_ix (ED.eq (ed_var 2 rfl) rfl) (ed_bin (ed_bin (ed_bin (ed_var 4 rfl) ed_int (by walk_at "b2")) (ed_bin (ed_var 1 rfl) (ed_bin (ED.eq (ed_callB (id := "len") (by rfl) B.«len» bb_len (ad_cons (ed_var 2 rfl) ad_nil) (by walk_at "bc")) (show _ = (D.int (N.length : Int)) from by rw [List.length_map])) ed_int (by walk_at "b2")) (by walk_at "b2")) (by walk_at "b2")) (ED.eq (ed_callB (id := "len") (by rfl) B.«len» bb_len (ad_cons (ed_var 2 rfl) ad_nil) (by walk_at "bc")) (show _ = (D.int (N.length : Int)) from by rw [List.length_map])) (by walk_at "b2")) (.l (at_getC (xs := N) (f := D.str) (i := qO N q m % (N.length : Int)) (a := "") ⟨Int.emod_nonneg _ (by omega), Int.emod_lt_of_pos _ (by omega)⟩))) (show _ = D.str (nAt N (qO N q m)) from rfl)) ?_)
  walk_at "env"
  refine ws_cons (ws_set 6 nd (ed_bin ed_int (ed_bin (ed_bin (ed_var 1 rfl) ed_int (by walk_at "b2")) ed_int (by walk_at "b2")) (by walk_at "b2")) ?_)
  walk_at "env"
  refine ws_cons (ws_if (td_cmp (ed_var 3 rfl) ed_str (by walk_at "c2")) (fun hc1 => ?_) (fun hc1 => ?_))
  · skip
    have h1 : k = "area" := of_decide_eq_true hc1
    refine ws_cons (ws_ret (ED.eq (ed_tup (ad_cons (ed_var 3 rfl) (ad_cons (ED.eq (ed_ix (ED.eq (ed_var 2 rfl) rfl) (ed_var 4 rfl) (.l (at_getC (xs := N) (f := D.str) (i := q / 7 % (N.length : Int)) (a := "") ⟨a1, a2⟩))) (show _ = D.str (nAt N (q / 7)) from rfl)) (ad_cons (ed_bin ed_int (ed_bin (ed_bin (ed_var 1 rfl) ed_int (by walk_at "b2")) ed_int (by walk_at "b2")) (by walk_at "b2")) ad_nil)))) ?_) (Or.inl rfl))
    unfold qRu
    rw [← hk, if_pos h1]
    rfl
  · skip
    have h1 : ¬ k = "area" := of_decide_eq_false hc1
    refine ws_nil ?_
    refine ws_cons (ws_if (td_cmp (ed_var 3 rfl) ed_str (by walk_at "c2")) (fun hc2 => ?_) (fun hc2 => ?_))
    · skip
      have h2 : k = "size" := of_decide_eq_true hc2
      refine ws_cons (ws_ret (ED.eq (ed_tup (ad_cons (ed_var 3 rfl) (ad_cons (ED.eq (ed_ix (ED.eq (ed_var 2 rfl) rfl) (ed_var 4 rfl) (.l (at_getC (xs := N) (f := D.str) (i := q / 7 % (N.length : Int)) (a := "") ⟨a1, a2⟩))) (show _ = D.str (nAt N (q / 7)) from rfl)) (ad_cons (ed_var 6 rfl) (ad_cons (ed_bin ed_int (ed_bin (ed_bin (ed_var 1 rfl) ed_int (by walk_at "b2")) ed_int (by walk_at "b2")) (by walk_at "b2")) ad_nil))))) ?_) (Or.inl rfl))
      unfold qRu
      rw [← hk, if_neg h1, if_pos h2]
      rfl
    · skip
      have h2 : ¬ k = "size" := of_decide_eq_false hc2
      refine ws_nil ?_
      refine ws_cons (ws_if (td_cmp (ed_var 3 rfl) ed_str (by walk_at "c2")) (fun hc3 => ?_) (fun hc3 => ?_))
      · skip
        have h3 : k = "never" := of_decide_eq_true hc3
        refine ws_cons (ws_ret (ED.eq (ed_tup (ad_cons (ed_var 3 rfl) (ad_cons (ED.eq (ed_ix (ED.eq (ed_var 2 rfl) rfl) (ed_var 4 rfl) (.l (at_getC (xs := N) (f := D.str) (i := q / 7 % (N.length : Int)) (a := "") ⟨a1, a2⟩))) (show _ = D.str (nAt N (q / 7)) from rfl)) (ad_cons (ed_var 5 rfl) ad_nil)))) ?_) (Or.inl rfl))
        unfold qRu
        rw [← hk, if_neg h1, if_neg h2, if_pos h3]
        rfl
      · skip
        have h3 : ¬ k = "never" := of_decide_eq_false hc3
        refine ws_nil ?_
        refine ws_cons (ws_if (td_tw (tw_or (td_cmp (ed_var 3 rfl) ed_str (by walk_at "c2")) (fun hb5 => (tw_or1 (td_cmp (ed_var 3 rfl) ed_str (by walk_at "c2")))))) (fun hc4 => ?_) (fun hc4 => ?_))
        · skip
          have h4 : k = "apart" ∨ k = "cover" := by simpa using hc4
          refine ws_cons (ws_ret (ED.eq (ed_tup (ad_cons (ed_var 3 rfl) (ad_cons (ED.eq (ed_ix (ED.eq (ed_var 2 rfl) rfl) (ed_var 4 rfl) (.l (at_getC (xs := N) (f := D.str) (i := q / 7 % (N.length : Int)) (a := "") ⟨a1, a2⟩))) (show _ = D.str (nAt N (q / 7)) from rfl)) (ad_cons (ed_var 5 rfl) (ad_cons (ed_bin (ed_var 6 rfl) ed_int (by walk_at "b2")) ad_nil))))) ?_) (Or.inl rfl))
          unfold qRu
          rw [← hk, if_neg h1, if_neg h2, if_neg h3, if_pos h4]
          rfl
        · skip
          have h4 : ¬ (k = "apart" ∨ k = "cover") := by simpa using hc4
          refine ws_nil ?_
          refine ws_cons (ws_ret (ED.eq (ed_tup (ad_cons (ed_var 3 rfl) (ad_cons (ED.eq (ed_ix (ED.eq (ed_var 2 rfl) rfl) (ed_var 4 rfl) (.l (at_getC (xs := N) (f := D.str) (i := q / 7 % (N.length : Int)) (a := "") ⟨a1, a2⟩))) (show _ = D.str (nAt N (q / 7)) from rfl)) (ad_cons (ed_var 6 rfl) ad_nil)))) ?_) (Or.inl rfl))
          unfold qRu
          rw [← hk, if_neg h1, if_neg h2, if_neg h3, if_neg h4]
          rfl
abbrev s_law_qrules : Stmt := top 50
theorem sc_law_qrules : FnScope ["cell", "most", "names", "draws", "k"] ["cell", "most", "names"] (defScope s_law_qrules) := ⟨rfl, rfl, rfl, by decide +kernel, rfl, by decide +kernel, by decide +kernel⟩
theorem ok_law_qrules {f : Addr} {fd : FuncData} (F : Fun K "_law_qrules" "_law_qrules" s_law_qrules f fd) (B : Bt mg) (KC : Kt K mg) (KL : Lt K mg) (WD : Zdt K w mg) (G_law_draws : Fn P w K mg base "_law_draws" 1 R_law_draws) (G_law_qrule : Fn P w K mg base "_law_qrule" 1 R_law_qrule) :
    FnOk P w K mg base CX0 2 f fd ["cell", "most", "names"] (spR K R_law_qrules) := by
  refine fn_ok (k := 1) F sc_law_qrules (fun ds d h => by cases h <;> rfl) fun ds d hR cdv A outer s H E hr => ?_
  have nd := sc_law_qrules.nd
  have hu := hr.units
  rcases hR with ⟨N, c, most, hm, hN⟩
  obtain ⟨n9, hn9⟩ : ∃ n : Int, n = dr c (2 * most + 1) (2 * most) % (most + 1) := ⟨_, rfl⟩
  have hnb : 0 ≤ n9 ∧ n9 ≤ most := by have := Int.emod_lt_of_pos (dr c (2 * most + 1) (2 * most)) (b := most + 1) (by omega); have := Int.emod_nonneg (dr c (2 * most + 1) (2 * most)) (b := most + 1) (by omega); omega
  walk_at "en"
  refine ws_cons (ws_set 3 nd (ed_call G_law_draws (hr.mono (by decide)) (by rfl) (ad_cons (ed_var 0 rfl) (ad_cons (ed_bin (ed_bin ed_int (ed_var 1 rfl) (by walk_at "b2")) ed_int (by walk_at "b2")) ad_nil)) (by exact .mk _ _ (by omega) (by omega))) ?_)
  walk_at "env"
  refine ws_cons (ws_ret (ED.eq (ed_lst (eo_map2 [("k", 4)] (List.range n9.toNat) (fun (i : Nat) => D.int (i : Int)) (fun (k : Nat) => qRu N (dr c (2 * most + 1) (2 * (k : Int))) (dr c (2 * most + 1) (2 * (k : Int) + 1))) (ruX) rfl nd (blkOk_by (N := ["cell", "most", "names", "draws", "k"]) (sc := defScope s_law_qrules) (by decide +kernel)) (id_range1 (by rfl) B.«range» (ED.eq (ed_bin (ed_ix (ed_var 3 rfl) (ed_bin ed_int (ed_var 1 rfl) (by walk_at "b2")) (by walk_at "ix")) (ed_bin (ed_var 1 rfl) ed_int (by walk_at "b2")) (by walk_at "b2")) (show _ = (D.int n9) from by rw [hn9])) (by walk_at "side")) (rngD0 _) (fun k hxm => by have hk9 := List.mem_range.mp hxm; exact ⟨_, by rfl, fun _ _ _ _ _ => ⟨(dg_name 4 nd), tds_nil, (ed_call G_law_qrule (hr.mono (by decide)) (by rfl) (ad_cons (ed_ix (ed_var 3 rfl) (ed_bin ed_int (ed_var 4 rfl) (by walk_at "b2")) (by walk_at "ix")) (ad_cons (ed_ix (ed_var 3 rfl) (ed_bin (ed_bin ed_int (ed_var 4 rfl) (by walk_at "b2")) ed_int (by walk_at "b2")) (by walk_at "ix")) (ad_cons (ed_var 2 rfl) ad_nil))) (by exact .mk _ _ _ (by omega)))⟩⟩) (by rw [List.length_range, sizeLine_eq]; omega))) ?_) (Or.inl rfl))
  unfold qRus
  rw [← hn9]
abbrev s_law_qwords_q1 : Stmt := top 51
theorem sc_law_qwords_q1 : FnScope ["expression", "part"] ["expression"] (defScope s_law_qwords_q1) := ⟨rfl, rfl, rfl, by decide +kernel, rfl, by decide +kernel, by decide +kernel⟩
theorem ok_law_qwords_q1 {f : Addr} {fd : FuncData} (F : Fun K "_law_qwords" "_law_qwords" s_law_qwords_q1 f fd) (B : Bt mg) (KC : Kt K mg) (KL : Lt K mg) (WD : Zdt K w mg)  :
    FnOk P w K mg base CX0 1 f fd ["expression"] (spR K R_law_qwords_q1) := by
  refine fn_ok (k := 0) F sc_law_qwords_q1 (fun ds d h => by cases h <;> rfl) fun ds d hR cdv A outer s H E hr => ?_
  have nd := sc_law_qwords_q1.nd
  have hu := hr.units
  rcases hR with ⟨L, d, x, hx, hd⟩
  walk_at "en"
  rcases x with n | ⟨o, l, r⟩ | ⟨o, n, y⟩
  rotate_left
  · exfalso; have := ex_pos l; unfold Ex.dep at hd; omega
  · exfalso; have := ex_pos y; unfold Ex.dep at hd; omega
  · skip
    refine ws_cons (ws_if (TD.eq (td_cmp (ED.eq (d' := .str "layer") (ed_ix (ED.eq (d' := .tup [.str "layer", .str n]) (ed_var 0 rfl) rfl) ed_int IX.t0) rfl) ed_str c2_eqS (by rfl)) rfl) (fun hc1 => ?_) (fun hc1 => ?_))
    · skip
      clear hc1
      refine ws_cons (ws_ret (ED.eq (ed_lst (eo_lst (ad_cons (ED.eq (d' := .str n) (ed_ix (ED.eq (d' := .tup [.str "layer", .str n]) (ed_var 0 rfl) rfl) ed_int IX.t1) rfl) ad_nil))) ?_) (Or.inl rfl))
      rfl
    · skip
      cases hc1
abbrev s_law_qwords_q2 : Stmt := top 51
theorem sc_law_qwords_q2 : FnScope ["expression", "part"] ["expression"] (defScope s_law_qwords_q2) := ⟨rfl, rfl, rfl, by decide +kernel, rfl, by decide +kernel, by decide +kernel⟩
theorem ok_law_qwords_q2 {f : Addr} {fd : FuncData} (F : Fun K "_law_qwords" "_law_qwords" s_law_qwords_q2 f fd) (B : Bt mg) (KC : Kt K mg) (KL : Lt K mg) (WD : Zdt K w mg) (G_law_qwords_q1 : Fn P w K mg base "_law_qwords" 1 R_law_qwords_q1) (G_law_qwords_q1 : Fn P w K mg base "_law_qwords" 1 R_law_qwords_q1) :
    FnOk P w K mg base CX0 2 f fd ["expression"] (spR K R_law_qwords_q2) := by
  refine fn_ok (k := 1) F sc_law_qwords_q2 (fun ds d h => by cases h <;> rfl) fun ds d hR cdv A outer s H E hr => ?_
  have nd := sc_law_qwords_q2.nd
  have hu := hr.units
  rcases hR with ⟨L, d, x, hx, hd⟩
  walk_at "en"
  rcases x with n | ⟨o, l, r⟩ | ⟨o, n, y⟩
  · skip
    refine ws_cons (ws_if (TD.eq (td_cmp (ED.eq (d' := .str "layer") (ed_ix (ED.eq (d' := .tup [.str "layer", .str n]) (ed_var 0 rfl) rfl) ed_int IX.t0) rfl) ed_str c2_eqS (by rfl)) rfl) (fun hc1 => ?_) (fun hc1 => ?_))
    · skip
      clear hc1
      refine ws_cons (ws_ret (ED.eq (ed_lst (eo_lst (ad_cons (ED.eq (d' := .str n) (ed_ix (ED.eq (d' := .tup [.str "layer", .str n]) (ed_var 0 rfl) rfl) ed_int IX.t1) rfl) ad_nil))) ?_) (Or.inl rfl))
      rfl
    · skip
      cases hc1
  · skip
    have hlr := two_lem hx
    have hdl : l.dep ≤ 1 ∧ r.dep ≤ 1 := by unfold Ex.dep at hd; omega
    have hl76 := ex_len5 (show (Ex.two o l r).dep ≤ 5 by omega)
    have hr76 := ex_len5 (show r.dep ≤ 5 by omega)
    have hpt := pt_len (x := r)
    rw [exW_two, List.length_append, List.length_cons] at hl76
    refine ws_cons (ws_if (TD.eq (td_cmp (ED.eq (d' := .str (opP o)) (ed_ix (ED.eq (d' := .tup [.str (opP o), l.e, r.e]) (ed_var 0 rfl) rfl) ed_int IX.t0) rfl) ed_str c2_eqS (by rfl)) (opP_lay o)) (fun hc2 => ?_) (fun hc2 => ?_))
    · skip
      cases hc2
    · skip
      clear hc2
      refine ws_nil ?_
      refine ws_cons (ws_set 1 nd (ed_call G_law_qwords_q1 (hr.mono (by decide)) (by rfl) (ad_cons (ED.eq (d' := r.e) (ed_ix (ED.eq (d' := .tup [.str (opP o), l.e, r.e]) (ed_var 0 rfl) rfl) ed_int IX.t2) rfl) ad_nil) (by first | exact .mk L _ r hlr.2 hdl.2 | exact .mk L _ l hlr.1 hdl.1)) ?_)
      walk_at "env"
      refine ws_cons (ws_if (TD.eq (td_cmp (ed_ix (ED.eq (ED.eq (d' := r.e) (ed_ix (ED.eq (d' := .tup [.str (opP o), l.e, r.e]) (ed_var 0 rfl) rfl) ed_int IX.t2) rfl) (ex_hd r)) ed_int IX.t0) (ED.eq (ed_lst (eo_lst (ad_cons ed_str (ad_cons ed_str (ad_cons ed_str (ad_cons ed_str ad_nil)))))) (show _ = D.lst (opL4.map .str) from rfl)) (c2_inStr (ys := opL4) (.lst _)) (by rfl)) (ex_inP r)) (fun hc3 => ?_) (fun hc3 => ?_))
      · skip
        have hp9 := ptW_t hc3
        refine ws_cons (ws_set 1 nd (ED.eq (ed_lst (eo_cat (ed_lst (eo_cat (ed_lst (eo_lst (ad_cons ed_str ad_nil))) (ed_var 1 rfl) (by simp only [List.length_append, List.length_cons, List.length_map, List.length_nil]; rw [sizeLine_eq]; omega))) (ed_lst (eo_lst (ad_cons ed_str ad_nil))) (by simp only [List.length_append, List.length_cons, List.length_map, List.length_nil]; rw [sizeLine_eq]; omega))) (show _ = D.lst ((ptW r).map .str) by rw [hp9]; simp)) ?_)
        walk_at "env"
        refine ws_nil ?_
        refine ws_cons (ws_if (TD.eq (td_cmp (ED.eq (d' := .str (opP o)) (ed_ix (ED.eq (d' := .tup [.str (opP o), l.e, r.e]) (ed_var 0 rfl) rfl) ed_int IX.t0) rfl) (ED.eq (ed_lst (eo_lst (ad_cons ed_str (ad_cons ed_str (ad_cons ed_str (ad_cons ed_str ad_nil)))))) (show _ = D.lst (opL4.map .str) from rfl)) (c2_inStr (ys := opL4) (.lst _)) (by rfl)) (opP_in o)) (fun hc4 => ?_) (fun hc4 => ?_))
        · skip
          clear hc4
          refine ws_cons (ws_ret (ED.eq (ED.eq (ed_lst (eo_cat (ed_lst (eo_cat (ed_call G_law_qwords_q1 (hr.mono (by decide)) (by rfl) (ad_cons (ED.eq (d' := l.e) (ed_ix (ED.eq (d' := .tup [.str (opP o), l.e, r.e]) (ed_var 0 rfl) rfl) ed_int IX.t1) rfl) ad_nil) (by first | exact .mk L _ r hlr.2 hdl.2 | exact .mk L _ l hlr.1 hdl.1)) (ed_lst (eo_lst (ad_cons (ED.eq (d' := .str (opP o)) (ed_ix (ED.eq (d' := .tup [.str (opP o), l.e, r.e]) (ed_var 0 rfl) rfl) ed_int IX.t0) rfl) ad_nil))) (by simp only [List.length_append, List.length_cons, List.length_map, List.length_nil]; rw [sizeLine_eq]; omega))) (ed_var 1 rfl) (by simp only [List.length_append, List.length_cons, List.length_map, List.length_nil]; rw [sizeLine_eq]; omega))) (show _ = D.lst ((exW (Ex.two o l r)).map .str) by rw [exW_two]; simp)) ?_) (Or.inl rfl))
          rfl
        · skip
          cases hc4
      · skip
        have hp9 := ptW_f hc3
        rw [← hp9]
        refine ws_nil ?_
        refine ws_cons (ws_if (TD.eq (td_cmp (ED.eq (d' := .str (opP o)) (ed_ix (ED.eq (d' := .tup [.str (opP o), l.e, r.e]) (ed_var 0 rfl) rfl) ed_int IX.t0) rfl) (ED.eq (ed_lst (eo_lst (ad_cons ed_str (ad_cons ed_str (ad_cons ed_str (ad_cons ed_str ad_nil)))))) (show _ = D.lst (opL4.map .str) from rfl)) (c2_inStr (ys := opL4) (.lst _)) (by rfl)) (opP_in o)) (fun hc5 => ?_) (fun hc5 => ?_))
        · skip
          clear hc5
          refine ws_cons (ws_ret (ED.eq (ED.eq (ed_lst (eo_cat (ed_lst (eo_cat (ed_call G_law_qwords_q1 (hr.mono (by decide)) (by rfl) (ad_cons (ED.eq (d' := l.e) (ed_ix (ED.eq (d' := .tup [.str (opP o), l.e, r.e]) (ed_var 0 rfl) rfl) ed_int IX.t1) rfl) ad_nil) (by first | exact .mk L _ r hlr.2 hdl.2 | exact .mk L _ l hlr.1 hdl.1)) (ed_lst (eo_lst (ad_cons (ED.eq (d' := .str (opP o)) (ed_ix (ED.eq (d' := .tup [.str (opP o), l.e, r.e]) (ed_var 0 rfl) rfl) ed_int IX.t0) rfl) ad_nil))) (by simp only [List.length_append, List.length_cons, List.length_map, List.length_nil]; rw [sizeLine_eq]; omega))) (ed_var 1 rfl) (by simp only [List.length_append, List.length_cons, List.length_map, List.length_nil]; rw [sizeLine_eq]; omega))) (show _ = D.lst ((exW (Ex.two o l r)).map .str) by rw [exW_two]; simp)) ?_) (Or.inl rfl))
          rfl
        · skip
          cases hc5
  · skip
    obtain ⟨hsz, hy⟩ := siz_lem hx
    have hdy : y.dep ≤ 1 := by unfold Ex.dep at hd; omega
    have hl76 := ex_len5 (show (Ex.siz o n y).dep ≤ 5 by omega)
    have hr76 := ex_len5 (show y.dep ≤ 5 by omega)
    have hpt := pt_len (x := y)
    rw [exW_siz, List.length_cons, List.length_cons] at hl76
    refine ws_cons (ws_if (TD.eq (td_cmp (ED.eq (d' := .str (opS o)) (ed_ix (ED.eq (d' := .tup [.str (opS o), .int n, y.e]) (ed_var 0 rfl) rfl) ed_int IX.t0) rfl) ed_str c2_eqS (by rfl)) (opS_lay o)) (fun hc6 => ?_) (fun hc6 => ?_))
    · skip
      cases hc6
    · skip
      clear hc6
      refine ws_nil ?_
      refine ws_cons (ws_set 1 nd (ed_call G_law_qwords_q1 (hr.mono (by decide)) (by rfl) (ad_cons (ED.eq (d' := y.e) (ed_ix (ED.eq (d' := .tup [.str (opS o), .int n, y.e]) (ed_var 0 rfl) rfl) ed_int IX.t2) rfl) ad_nil) (by exact .mk L _ y hy hdy)) ?_)
      walk_at "env"
      refine ws_cons (ws_if (TD.eq (td_cmp (ed_ix (ED.eq (ED.eq (d' := y.e) (ed_ix (ED.eq (d' := .tup [.str (opS o), .int n, y.e]) (ed_var 0 rfl) rfl) ed_int IX.t2) rfl) (ex_hd y)) ed_int IX.t0) (ED.eq (ed_lst (eo_lst (ad_cons ed_str (ad_cons ed_str (ad_cons ed_str (ad_cons ed_str ad_nil)))))) (show _ = D.lst (opL4.map .str) from rfl)) (c2_inStr (ys := opL4) (.lst _)) (by rfl)) (ex_inP y)) (fun hc7 => ?_) (fun hc7 => ?_))
      · skip
        have hp9 := ptW_t hc7
        refine ws_cons (ws_set 1 nd (ED.eq (ed_lst (eo_cat (ed_lst (eo_cat (ed_lst (eo_lst (ad_cons ed_str ad_nil))) (ed_var 1 rfl) (by simp only [List.length_append, List.length_cons, List.length_map, List.length_nil]; rw [sizeLine_eq]; omega))) (ed_lst (eo_lst (ad_cons ed_str ad_nil))) (by simp only [List.length_append, List.length_cons, List.length_map, List.length_nil]; rw [sizeLine_eq]; omega))) (show _ = D.lst ((ptW y).map .str) by rw [hp9]; simp)) ?_)
        walk_at "env"
        refine ws_nil ?_
        refine ws_cons (ws_if (TD.eq (td_cmp (ED.eq (d' := .str (opS o)) (ed_ix (ED.eq (d' := .tup [.str (opS o), .int n, y.e]) (ed_var 0 rfl) rfl) ed_int IX.t0) rfl) (ED.eq (ed_lst (eo_lst (ad_cons ed_str (ad_cons ed_str (ad_cons ed_str (ad_cons ed_str ad_nil)))))) (show _ = D.lst (opL4.map .str) from rfl)) (c2_inStr (ys := opL4) (.lst _)) (by rfl)) (opS_notP o)) (fun hc8 => ?_) (fun hc8 => ?_))
        · skip
          cases hc8
        · skip
          clear hc8
          refine ws_nil ?_
          refine ws_cons (ws_ret (ED.eq (ED.eq (ed_lst (eo_cat (ed_lst (eo_lst (ad_cons (ED.eq (d' := .str (opS o)) (ed_ix (ED.eq (d' := .tup [.str (opS o), .int n, y.e]) (ed_var 0 rfl) rfl) ed_int IX.t0) rfl) (ad_cons (ed_callT (T := "str") (by rfl) B.«str» bb_str (ad_cons (ED.eq (d' := .int n) (ed_ix (ED.eq (d' := .tup [.str (opS o), .int n, y.e]) (ed_var 0 rfl) rfl) ed_int IX.t1) rfl) ad_nil) (bc_strI (szE_rz hsz).sm.log)) ad_nil)))) (ed_var 1 rfl) (by simp only [List.length_append, List.length_cons, List.length_map, List.length_nil]; rw [sizeLine_eq]; omega))) (show _ = D.lst ((exW (Ex.siz o n y)).map .str) by rw [exW_siz]; simp; rfl)) ?_) (Or.inl rfl))
          rfl
      · skip
        have hp9 := ptW_f hc7
        rw [← hp9]
        refine ws_nil ?_
        refine ws_cons (ws_if (TD.eq (td_cmp (ED.eq (d' := .str (opS o)) (ed_ix (ED.eq (d' := .tup [.str (opS o), .int n, y.e]) (ed_var 0 rfl) rfl) ed_int IX.t0) rfl) (ED.eq (ed_lst (eo_lst (ad_cons ed_str (ad_cons ed_str (ad_cons ed_str (ad_cons ed_str ad_nil)))))) (show _ = D.lst (opL4.map .str) from rfl)) (c2_inStr (ys := opL4) (.lst _)) (by rfl)) (opS_notP o)) (fun hc9 => ?_) (fun hc9 => ?_))
        · skip
          cases hc9
        · skip
          clear hc9
          refine ws_nil ?_
          refine ws_cons (ws_ret (ED.eq (ED.eq (ed_lst (eo_cat (ed_lst (eo_lst (ad_cons (ED.eq (d' := .str (opS o)) (ed_ix (ED.eq (d' := .tup [.str (opS o), .int n, y.e]) (ed_var 0 rfl) rfl) ed_int IX.t0) rfl) (ad_cons (ed_callT (T := "str") (by rfl) B.«str» bb_str (ad_cons (ED.eq (d' := .int n) (ed_ix (ED.eq (d' := .tup [.str (opS o), .int n, y.e]) (ed_var 0 rfl) rfl) ed_int IX.t1) rfl) ad_nil) (bc_strI (szE_rz hsz).sm.log)) ad_nil)))) (ed_var 1 rfl) (by simp only [List.length_append, List.length_cons, List.length_map, List.length_nil]; rw [sizeLine_eq]; omega))) (show _ = D.lst ((exW (Ex.siz o n y)).map .str) by rw [exW_siz]; simp; rfl)) ?_) (Or.inl rfl))
          rfl
abbrev s_law_qwords_q3 : Stmt := top 51
theorem sc_law_qwords_q3 : FnScope ["expression", "part"] ["expression"] (defScope s_law_qwords_q3) := ⟨rfl, rfl, rfl, by decide +kernel, rfl, by decide +kernel, by decide +kernel⟩
theorem ok_law_qwords_q3 {f : Addr} {fd : FuncData} (F : Fun K "_law_qwords" "_law_qwords" s_law_qwords_q3 f fd) (B : Bt mg) (KC : Kt K mg) (KL : Lt K mg) (WD : Zdt K w mg) (G_law_qwords_q2 : Fn P w K mg base "_law_qwords" 2 R_law_qwords_q2) (G_law_qwords_q2 : Fn P w K mg base "_law_qwords" 2 R_law_qwords_q2) :
    FnOk P w K mg base CX0 3 f fd ["expression"] (spR K R_law_qwords_q3) := by
  refine fn_ok (k := 2) F sc_law_qwords_q3 (fun ds d h => by cases h <;> rfl) fun ds d hR cdv A outer s H E hr => ?_
  have nd := sc_law_qwords_q3.nd
  have hu := hr.units
  rcases hR with ⟨L, d, x, hx, hd⟩
  walk_at "en"
  rcases x with n | ⟨o, l, r⟩ | ⟨o, n, y⟩
  · skip
    refine ws_cons (ws_if (TD.eq (td_cmp (ED.eq (d' := .str "layer") (ed_ix (ED.eq (d' := .tup [.str "layer", .str n]) (ed_var 0 rfl) rfl) ed_int IX.t0) rfl) ed_str c2_eqS (by rfl)) rfl) (fun hc1 => ?_) (fun hc1 => ?_))
    · skip
      clear hc1
      refine ws_cons (ws_ret (ED.eq (ed_lst (eo_lst (ad_cons (ED.eq (d' := .str n) (ed_ix (ED.eq (d' := .tup [.str "layer", .str n]) (ed_var 0 rfl) rfl) ed_int IX.t1) rfl) ad_nil))) ?_) (Or.inl rfl))
      rfl
    · skip
      cases hc1
  · skip
    have hlr := two_lem hx
    have hdl : l.dep ≤ 2 ∧ r.dep ≤ 2 := by unfold Ex.dep at hd; omega
    have hl76 := ex_len5 (show (Ex.two o l r).dep ≤ 5 by omega)
    have hr76 := ex_len5 (show r.dep ≤ 5 by omega)
    have hpt := pt_len (x := r)
    rw [exW_two, List.length_append, List.length_cons] at hl76
    refine ws_cons (ws_if (TD.eq (td_cmp (ED.eq (d' := .str (opP o)) (ed_ix (ED.eq (d' := .tup [.str (opP o), l.e, r.e]) (ed_var 0 rfl) rfl) ed_int IX.t0) rfl) ed_str c2_eqS (by rfl)) (opP_lay o)) (fun hc2 => ?_) (fun hc2 => ?_))
    · skip
      cases hc2
    · skip
      clear hc2
      refine ws_nil ?_
      refine ws_cons (ws_set 1 nd (ed_call G_law_qwords_q2 (hr.mono (by decide)) (by rfl) (ad_cons (ED.eq (d' := r.e) (ed_ix (ED.eq (d' := .tup [.str (opP o), l.e, r.e]) (ed_var 0 rfl) rfl) ed_int IX.t2) rfl) ad_nil) (by first | exact .mk L _ r hlr.2 hdl.2 | exact .mk L _ l hlr.1 hdl.1)) ?_)
      walk_at "env"
      refine ws_cons (ws_if (TD.eq (td_cmp (ed_ix (ED.eq (ED.eq (d' := r.e) (ed_ix (ED.eq (d' := .tup [.str (opP o), l.e, r.e]) (ed_var 0 rfl) rfl) ed_int IX.t2) rfl) (ex_hd r)) ed_int IX.t0) (ED.eq (ed_lst (eo_lst (ad_cons ed_str (ad_cons ed_str (ad_cons ed_str (ad_cons ed_str ad_nil)))))) (show _ = D.lst (opL4.map .str) from rfl)) (c2_inStr (ys := opL4) (.lst _)) (by rfl)) (ex_inP r)) (fun hc3 => ?_) (fun hc3 => ?_))
      · skip
        have hp9 := ptW_t hc3
        refine ws_cons (ws_set 1 nd (ED.eq (ed_lst (eo_cat (ed_lst (eo_cat (ed_lst (eo_lst (ad_cons ed_str ad_nil))) (ed_var 1 rfl) (by simp only [List.length_append, List.length_cons, List.length_map, List.length_nil]; rw [sizeLine_eq]; omega))) (ed_lst (eo_lst (ad_cons ed_str ad_nil))) (by simp only [List.length_append, List.length_cons, List.length_map, List.length_nil]; rw [sizeLine_eq]; omega))) (show _ = D.lst ((ptW r).map .str) by rw [hp9]; simp)) ?_)
        walk_at "env"
        refine ws_nil ?_
        refine ws_cons (ws_if (TD.eq (td_cmp (ED.eq (d' := .str (opP o)) (ed_ix (ED.eq (d' := .tup [.str (opP o), l.e, r.e]) (ed_var 0 rfl) rfl) ed_int IX.t0) rfl) (ED.eq (ed_lst (eo_lst (ad_cons ed_str (ad_cons ed_str (ad_cons ed_str (ad_cons ed_str ad_nil)))))) (show _ = D.lst (opL4.map .str) from rfl)) (c2_inStr (ys := opL4) (.lst _)) (by rfl)) (opP_in o)) (fun hc4 => ?_) (fun hc4 => ?_))
        · skip
          clear hc4
          refine ws_cons (ws_ret (ED.eq (ED.eq (ed_lst (eo_cat (ed_lst (eo_cat (ed_call G_law_qwords_q2 (hr.mono (by decide)) (by rfl) (ad_cons (ED.eq (d' := l.e) (ed_ix (ED.eq (d' := .tup [.str (opP o), l.e, r.e]) (ed_var 0 rfl) rfl) ed_int IX.t1) rfl) ad_nil) (by first | exact .mk L _ r hlr.2 hdl.2 | exact .mk L _ l hlr.1 hdl.1)) (ed_lst (eo_lst (ad_cons (ED.eq (d' := .str (opP o)) (ed_ix (ED.eq (d' := .tup [.str (opP o), l.e, r.e]) (ed_var 0 rfl) rfl) ed_int IX.t0) rfl) ad_nil))) (by simp only [List.length_append, List.length_cons, List.length_map, List.length_nil]; rw [sizeLine_eq]; omega))) (ed_var 1 rfl) (by simp only [List.length_append, List.length_cons, List.length_map, List.length_nil]; rw [sizeLine_eq]; omega))) (show _ = D.lst ((exW (Ex.two o l r)).map .str) by rw [exW_two]; simp)) ?_) (Or.inl rfl))
          rfl
        · skip
          cases hc4
      · skip
        have hp9 := ptW_f hc3
        rw [← hp9]
        refine ws_nil ?_
        refine ws_cons (ws_if (TD.eq (td_cmp (ED.eq (d' := .str (opP o)) (ed_ix (ED.eq (d' := .tup [.str (opP o), l.e, r.e]) (ed_var 0 rfl) rfl) ed_int IX.t0) rfl) (ED.eq (ed_lst (eo_lst (ad_cons ed_str (ad_cons ed_str (ad_cons ed_str (ad_cons ed_str ad_nil)))))) (show _ = D.lst (opL4.map .str) from rfl)) (c2_inStr (ys := opL4) (.lst _)) (by rfl)) (opP_in o)) (fun hc5 => ?_) (fun hc5 => ?_))
        · skip
          clear hc5
          refine ws_cons (ws_ret (ED.eq (ED.eq (ed_lst (eo_cat (ed_lst (eo_cat (ed_call G_law_qwords_q2 (hr.mono (by decide)) (by rfl) (ad_cons (ED.eq (d' := l.e) (ed_ix (ED.eq (d' := .tup [.str (opP o), l.e, r.e]) (ed_var 0 rfl) rfl) ed_int IX.t1) rfl) ad_nil) (by first | exact .mk L _ r hlr.2 hdl.2 | exact .mk L _ l hlr.1 hdl.1)) (ed_lst (eo_lst (ad_cons (ED.eq (d' := .str (opP o)) (ed_ix (ED.eq (d' := .tup [.str (opP o), l.e, r.e]) (ed_var 0 rfl) rfl) ed_int IX.t0) rfl) ad_nil))) (by simp only [List.length_append, List.length_cons, List.length_map, List.length_nil]; rw [sizeLine_eq]; omega))) (ed_var 1 rfl) (by simp only [List.length_append, List.length_cons, List.length_map, List.length_nil]; rw [sizeLine_eq]; omega))) (show _ = D.lst ((exW (Ex.two o l r)).map .str) by rw [exW_two]; simp)) ?_) (Or.inl rfl))
          rfl
        · skip
          cases hc5
  · skip
    obtain ⟨hsz, hy⟩ := siz_lem hx
    have hdy : y.dep ≤ 2 := by unfold Ex.dep at hd; omega
    have hl76 := ex_len5 (show (Ex.siz o n y).dep ≤ 5 by omega)
    have hr76 := ex_len5 (show y.dep ≤ 5 by omega)
    have hpt := pt_len (x := y)
    rw [exW_siz, List.length_cons, List.length_cons] at hl76
    refine ws_cons (ws_if (TD.eq (td_cmp (ED.eq (d' := .str (opS o)) (ed_ix (ED.eq (d' := .tup [.str (opS o), .int n, y.e]) (ed_var 0 rfl) rfl) ed_int IX.t0) rfl) ed_str c2_eqS (by rfl)) (opS_lay o)) (fun hc6 => ?_) (fun hc6 => ?_))
    · skip
      cases hc6
    · skip
      clear hc6
      refine ws_nil ?_
      refine ws_cons (ws_set 1 nd (ed_call G_law_qwords_q2 (hr.mono (by decide)) (by rfl) (ad_cons (ED.eq (d' := y.e) (ed_ix (ED.eq (d' := .tup [.str (opS o), .int n, y.e]) (ed_var 0 rfl) rfl) ed_int IX.t2) rfl) ad_nil) (by exact .mk L _ y hy hdy)) ?_)
      walk_at "env"
      refine ws_cons (ws_if (TD.eq (td_cmp (ed_ix (ED.eq (ED.eq (d' := y.e) (ed_ix (ED.eq (d' := .tup [.str (opS o), .int n, y.e]) (ed_var 0 rfl) rfl) ed_int IX.t2) rfl) (ex_hd y)) ed_int IX.t0) (ED.eq (ed_lst (eo_lst (ad_cons ed_str (ad_cons ed_str (ad_cons ed_str (ad_cons ed_str ad_nil)))))) (show _ = D.lst (opL4.map .str) from rfl)) (c2_inStr (ys := opL4) (.lst _)) (by rfl)) (ex_inP y)) (fun hc7 => ?_) (fun hc7 => ?_))
      · skip
        have hp9 := ptW_t hc7
        refine ws_cons (ws_set 1 nd (ED.eq (ed_lst (eo_cat (ed_lst (eo_cat (ed_lst (eo_lst (ad_cons ed_str ad_nil))) (ed_var 1 rfl) (by simp only [List.length_append, List.length_cons, List.length_map, List.length_nil]; rw [sizeLine_eq]; omega))) (ed_lst (eo_lst (ad_cons ed_str ad_nil))) (by simp only [List.length_append, List.length_cons, List.length_map, List.length_nil]; rw [sizeLine_eq]; omega))) (show _ = D.lst ((ptW y).map .str) by rw [hp9]; simp)) ?_)
        walk_at "env"
        refine ws_nil ?_
        refine ws_cons (ws_if (TD.eq (td_cmp (ED.eq (d' := .str (opS o)) (ed_ix (ED.eq (d' := .tup [.str (opS o), .int n, y.e]) (ed_var 0 rfl) rfl) ed_int IX.t0) rfl) (ED.eq (ed_lst (eo_lst (ad_cons ed_str (ad_cons ed_str (ad_cons ed_str (ad_cons ed_str ad_nil)))))) (show _ = D.lst (opL4.map .str) from rfl)) (c2_inStr (ys := opL4) (.lst _)) (by rfl)) (opS_notP o)) (fun hc8 => ?_) (fun hc8 => ?_))
        · skip
          cases hc8
        · skip
          clear hc8
          refine ws_nil ?_
          refine ws_cons (ws_ret (ED.eq (ED.eq (ed_lst (eo_cat (ed_lst (eo_lst (ad_cons (ED.eq (d' := .str (opS o)) (ed_ix (ED.eq (d' := .tup [.str (opS o), .int n, y.e]) (ed_var 0 rfl) rfl) ed_int IX.t0) rfl) (ad_cons (ed_callT (T := "str") (by rfl) B.«str» bb_str (ad_cons (ED.eq (d' := .int n) (ed_ix (ED.eq (d' := .tup [.str (opS o), .int n, y.e]) (ed_var 0 rfl) rfl) ed_int IX.t1) rfl) ad_nil) (bc_strI (szE_rz hsz).sm.log)) ad_nil)))) (ed_var 1 rfl) (by simp only [List.length_append, List.length_cons, List.length_map, List.length_nil]; rw [sizeLine_eq]; omega))) (show _ = D.lst ((exW (Ex.siz o n y)).map .str) by rw [exW_siz]; simp; rfl)) ?_) (Or.inl rfl))
          rfl
      · skip
        have hp9 := ptW_f hc7
        rw [← hp9]
        refine ws_nil ?_
        refine ws_cons (ws_if (TD.eq (td_cmp (ED.eq (d' := .str (opS o)) (ed_ix (ED.eq (d' := .tup [.str (opS o), .int n, y.e]) (ed_var 0 rfl) rfl) ed_int IX.t0) rfl) (ED.eq (ed_lst (eo_lst (ad_cons ed_str (ad_cons ed_str (ad_cons ed_str (ad_cons ed_str ad_nil)))))) (show _ = D.lst (opL4.map .str) from rfl)) (c2_inStr (ys := opL4) (.lst _)) (by rfl)) (opS_notP o)) (fun hc9 => ?_) (fun hc9 => ?_))
        · skip
          cases hc9
        · skip
          clear hc9
          refine ws_nil ?_
          refine ws_cons (ws_ret (ED.eq (ED.eq (ed_lst (eo_cat (ed_lst (eo_lst (ad_cons (ED.eq (d' := .str (opS o)) (ed_ix (ED.eq (d' := .tup [.str (opS o), .int n, y.e]) (ed_var 0 rfl) rfl) ed_int IX.t0) rfl) (ad_cons (ed_callT (T := "str") (by rfl) B.«str» bb_str (ad_cons (ED.eq (d' := .int n) (ed_ix (ED.eq (d' := .tup [.str (opS o), .int n, y.e]) (ed_var 0 rfl) rfl) ed_int IX.t1) rfl) ad_nil) (bc_strI (szE_rz hsz).sm.log)) ad_nil)))) (ed_var 1 rfl) (by simp only [List.length_append, List.length_cons, List.length_map, List.length_nil]; rw [sizeLine_eq]; omega))) (show _ = D.lst ((exW (Ex.siz o n y)).map .str) by rw [exW_siz]; simp; rfl)) ?_) (Or.inl rfl))
          rfl
abbrev s_law_qwords_q4 : Stmt := top 51
theorem sc_law_qwords_q4 : FnScope ["expression", "part"] ["expression"] (defScope s_law_qwords_q4) := ⟨rfl, rfl, rfl, by decide +kernel, rfl, by decide +kernel, by decide +kernel⟩
theorem ok_law_qwords_q4 {f : Addr} {fd : FuncData} (F : Fun K "_law_qwords" "_law_qwords" s_law_qwords_q4 f fd) (B : Bt mg) (KC : Kt K mg) (KL : Lt K mg) (WD : Zdt K w mg) (G_law_qwords_q3 : Fn P w K mg base "_law_qwords" 3 R_law_qwords_q3) (G_law_qwords_q3 : Fn P w K mg base "_law_qwords" 3 R_law_qwords_q3) :
    FnOk P w K mg base CX0 4 f fd ["expression"] (spR K R_law_qwords_q4) := by
  refine fn_ok (k := 3) F sc_law_qwords_q4 (fun ds d h => by cases h <;> rfl) fun ds d hR cdv A outer s H E hr => ?_
  have nd := sc_law_qwords_q4.nd
  have hu := hr.units
  rcases hR with ⟨L, d, x, hx, hd⟩
  walk_at "en"
  rcases x with n | ⟨o, l, r⟩ | ⟨o, n, y⟩
  · skip
    refine ws_cons (ws_if (TD.eq (td_cmp (ED.eq (d' := .str "layer") (ed_ix (ED.eq (d' := .tup [.str "layer", .str n]) (ed_var 0 rfl) rfl) ed_int IX.t0) rfl) ed_str c2_eqS (by rfl)) rfl) (fun hc1 => ?_) (fun hc1 => ?_))
    · skip
      clear hc1
      refine ws_cons (ws_ret (ED.eq (ed_lst (eo_lst (ad_cons (ED.eq (d' := .str n) (ed_ix (ED.eq (d' := .tup [.str "layer", .str n]) (ed_var 0 rfl) rfl) ed_int IX.t1) rfl) ad_nil))) ?_) (Or.inl rfl))
      rfl
    · skip
      cases hc1
  · skip
    have hlr := two_lem hx
    have hdl : l.dep ≤ 3 ∧ r.dep ≤ 3 := by unfold Ex.dep at hd; omega
    have hl76 := ex_len5 (show (Ex.two o l r).dep ≤ 5 by omega)
    have hr76 := ex_len5 (show r.dep ≤ 5 by omega)
    have hpt := pt_len (x := r)
    rw [exW_two, List.length_append, List.length_cons] at hl76
    refine ws_cons (ws_if (TD.eq (td_cmp (ED.eq (d' := .str (opP o)) (ed_ix (ED.eq (d' := .tup [.str (opP o), l.e, r.e]) (ed_var 0 rfl) rfl) ed_int IX.t0) rfl) ed_str c2_eqS (by rfl)) (opP_lay o)) (fun hc2 => ?_) (fun hc2 => ?_))
    · skip
      cases hc2
    · skip
      clear hc2
      refine ws_nil ?_
      refine ws_cons (ws_set 1 nd (ed_call G_law_qwords_q3 (hr.mono (by decide)) (by rfl) (ad_cons (ED.eq (d' := r.e) (ed_ix (ED.eq (d' := .tup [.str (opP o), l.e, r.e]) (ed_var 0 rfl) rfl) ed_int IX.t2) rfl) ad_nil) (by first | exact .mk L _ r hlr.2 hdl.2 | exact .mk L _ l hlr.1 hdl.1)) ?_)
      walk_at "env"
      refine ws_cons (ws_if (TD.eq (td_cmp (ed_ix (ED.eq (ED.eq (d' := r.e) (ed_ix (ED.eq (d' := .tup [.str (opP o), l.e, r.e]) (ed_var 0 rfl) rfl) ed_int IX.t2) rfl) (ex_hd r)) ed_int IX.t0) (ED.eq (ed_lst (eo_lst (ad_cons ed_str (ad_cons ed_str (ad_cons ed_str (ad_cons ed_str ad_nil)))))) (show _ = D.lst (opL4.map .str) from rfl)) (c2_inStr (ys := opL4) (.lst _)) (by rfl)) (ex_inP r)) (fun hc3 => ?_) (fun hc3 => ?_))
      · skip
        have hp9 := ptW_t hc3
        refine ws_cons (ws_set 1 nd (ED.eq (ed_lst (eo_cat (ed_lst (eo_cat (ed_lst (eo_lst (ad_cons ed_str ad_nil))) (ed_var 1 rfl) (by simp only [List.length_append, List.length_cons, List.length_map, List.length_nil]; rw [sizeLine_eq]; omega))) (ed_lst (eo_lst (ad_cons ed_str ad_nil))) (by simp only [List.length_append, List.length_cons, List.length_map, List.length_nil]; rw [sizeLine_eq]; omega))) (show _ = D.lst ((ptW r).map .str) by rw [hp9]; simp)) ?_)
        walk_at "env"
        refine ws_nil ?_
        refine ws_cons (ws_if (TD.eq (td_cmp (ED.eq (d' := .str (opP o)) (ed_ix (ED.eq (d' := .tup [.str (opP o), l.e, r.e]) (ed_var 0 rfl) rfl) ed_int IX.t0) rfl) (ED.eq (ed_lst (eo_lst (ad_cons ed_str (ad_cons ed_str (ad_cons ed_str (ad_cons ed_str ad_nil)))))) (show _ = D.lst (opL4.map .str) from rfl)) (c2_inStr (ys := opL4) (.lst _)) (by rfl)) (opP_in o)) (fun hc4 => ?_) (fun hc4 => ?_))
        · skip
          clear hc4
          refine ws_cons (ws_ret (ED.eq (ED.eq (ed_lst (eo_cat (ed_lst (eo_cat (ed_call G_law_qwords_q3 (hr.mono (by decide)) (by rfl) (ad_cons (ED.eq (d' := l.e) (ed_ix (ED.eq (d' := .tup [.str (opP o), l.e, r.e]) (ed_var 0 rfl) rfl) ed_int IX.t1) rfl) ad_nil) (by first | exact .mk L _ r hlr.2 hdl.2 | exact .mk L _ l hlr.1 hdl.1)) (ed_lst (eo_lst (ad_cons (ED.eq (d' := .str (opP o)) (ed_ix (ED.eq (d' := .tup [.str (opP o), l.e, r.e]) (ed_var 0 rfl) rfl) ed_int IX.t0) rfl) ad_nil))) (by simp only [List.length_append, List.length_cons, List.length_map, List.length_nil]; rw [sizeLine_eq]; omega))) (ed_var 1 rfl) (by simp only [List.length_append, List.length_cons, List.length_map, List.length_nil]; rw [sizeLine_eq]; omega))) (show _ = D.lst ((exW (Ex.two o l r)).map .str) by rw [exW_two]; simp)) ?_) (Or.inl rfl))
          rfl
        · skip
          cases hc4
      · skip
        have hp9 := ptW_f hc3
        rw [← hp9]
        refine ws_nil ?_
        refine ws_cons (ws_if (TD.eq (td_cmp (ED.eq (d' := .str (opP o)) (ed_ix (ED.eq (d' := .tup [.str (opP o), l.e, r.e]) (ed_var 0 rfl) rfl) ed_int IX.t0) rfl) (ED.eq (ed_lst (eo_lst (ad_cons ed_str (ad_cons ed_str (ad_cons ed_str (ad_cons ed_str ad_nil)))))) (show _ = D.lst (opL4.map .str) from rfl)) (c2_inStr (ys := opL4) (.lst _)) (by rfl)) (opP_in o)) (fun hc5 => ?_) (fun hc5 => ?_))
        · skip
          clear hc5
          refine ws_cons (ws_ret (ED.eq (ED.eq (ed_lst (eo_cat (ed_lst (eo_cat (ed_call G_law_qwords_q3 (hr.mono (by decide)) (by rfl) (ad_cons (ED.eq (d' := l.e) (ed_ix (ED.eq (d' := .tup [.str (opP o), l.e, r.e]) (ed_var 0 rfl) rfl) ed_int IX.t1) rfl) ad_nil) (by first | exact .mk L _ r hlr.2 hdl.2 | exact .mk L _ l hlr.1 hdl.1)) (ed_lst (eo_lst (ad_cons (ED.eq (d' := .str (opP o)) (ed_ix (ED.eq (d' := .tup [.str (opP o), l.e, r.e]) (ed_var 0 rfl) rfl) ed_int IX.t0) rfl) ad_nil))) (by simp only [List.length_append, List.length_cons, List.length_map, List.length_nil]; rw [sizeLine_eq]; omega))) (ed_var 1 rfl) (by simp only [List.length_append, List.length_cons, List.length_map, List.length_nil]; rw [sizeLine_eq]; omega))) (show _ = D.lst ((exW (Ex.two o l r)).map .str) by rw [exW_two]; simp)) ?_) (Or.inl rfl))
          rfl
        · skip
          cases hc5
  · skip
    obtain ⟨hsz, hy⟩ := siz_lem hx
    have hdy : y.dep ≤ 3 := by unfold Ex.dep at hd; omega
    have hl76 := ex_len5 (show (Ex.siz o n y).dep ≤ 5 by omega)
    have hr76 := ex_len5 (show y.dep ≤ 5 by omega)
    have hpt := pt_len (x := y)
    rw [exW_siz, List.length_cons, List.length_cons] at hl76
    refine ws_cons (ws_if (TD.eq (td_cmp (ED.eq (d' := .str (opS o)) (ed_ix (ED.eq (d' := .tup [.str (opS o), .int n, y.e]) (ed_var 0 rfl) rfl) ed_int IX.t0) rfl) ed_str c2_eqS (by rfl)) (opS_lay o)) (fun hc6 => ?_) (fun hc6 => ?_))
    · skip
      cases hc6
    · skip
      clear hc6
      refine ws_nil ?_
      refine ws_cons (ws_set 1 nd (ed_call G_law_qwords_q3 (hr.mono (by decide)) (by rfl) (ad_cons (ED.eq (d' := y.e) (ed_ix (ED.eq (d' := .tup [.str (opS o), .int n, y.e]) (ed_var 0 rfl) rfl) ed_int IX.t2) rfl) ad_nil) (by exact .mk L _ y hy hdy)) ?_)
      walk_at "env"
      refine ws_cons (ws_if (TD.eq (td_cmp (ed_ix (ED.eq (ED.eq (d' := y.e) (ed_ix (ED.eq (d' := .tup [.str (opS o), .int n, y.e]) (ed_var 0 rfl) rfl) ed_int IX.t2) rfl) (ex_hd y)) ed_int IX.t0) (ED.eq (ed_lst (eo_lst (ad_cons ed_str (ad_cons ed_str (ad_cons ed_str (ad_cons ed_str ad_nil)))))) (show _ = D.lst (opL4.map .str) from rfl)) (c2_inStr (ys := opL4) (.lst _)) (by rfl)) (ex_inP y)) (fun hc7 => ?_) (fun hc7 => ?_))
      · skip
        have hp9 := ptW_t hc7
        refine ws_cons (ws_set 1 nd (ED.eq (ed_lst (eo_cat (ed_lst (eo_cat (ed_lst (eo_lst (ad_cons ed_str ad_nil))) (ed_var 1 rfl) (by simp only [List.length_append, List.length_cons, List.length_map, List.length_nil]; rw [sizeLine_eq]; omega))) (ed_lst (eo_lst (ad_cons ed_str ad_nil))) (by simp only [List.length_append, List.length_cons, List.length_map, List.length_nil]; rw [sizeLine_eq]; omega))) (show _ = D.lst ((ptW y).map .str) by rw [hp9]; simp)) ?_)
        walk_at "env"
        refine ws_nil ?_
        refine ws_cons (ws_if (TD.eq (td_cmp (ED.eq (d' := .str (opS o)) (ed_ix (ED.eq (d' := .tup [.str (opS o), .int n, y.e]) (ed_var 0 rfl) rfl) ed_int IX.t0) rfl) (ED.eq (ed_lst (eo_lst (ad_cons ed_str (ad_cons ed_str (ad_cons ed_str (ad_cons ed_str ad_nil)))))) (show _ = D.lst (opL4.map .str) from rfl)) (c2_inStr (ys := opL4) (.lst _)) (by rfl)) (opS_notP o)) (fun hc8 => ?_) (fun hc8 => ?_))
        · skip
          cases hc8
        · skip
          clear hc8
          refine ws_nil ?_
          refine ws_cons (ws_ret (ED.eq (ED.eq (ed_lst (eo_cat (ed_lst (eo_lst (ad_cons (ED.eq (d' := .str (opS o)) (ed_ix (ED.eq (d' := .tup [.str (opS o), .int n, y.e]) (ed_var 0 rfl) rfl) ed_int IX.t0) rfl) (ad_cons (ed_callT (T := "str") (by rfl) B.«str» bb_str (ad_cons (ED.eq (d' := .int n) (ed_ix (ED.eq (d' := .tup [.str (opS o), .int n, y.e]) (ed_var 0 rfl) rfl) ed_int IX.t1) rfl) ad_nil) (bc_strI (szE_rz hsz).sm.log)) ad_nil)))) (ed_var 1 rfl) (by simp only [List.length_append, List.length_cons, List.length_map, List.length_nil]; rw [sizeLine_eq]; omega))) (show _ = D.lst ((exW (Ex.siz o n y)).map .str) by rw [exW_siz]; simp; rfl)) ?_) (Or.inl rfl))
          rfl
      · skip
        have hp9 := ptW_f hc7
        rw [← hp9]
        refine ws_nil ?_
        refine ws_cons (ws_if (TD.eq (td_cmp (ED.eq (d' := .str (opS o)) (ed_ix (ED.eq (d' := .tup [.str (opS o), .int n, y.e]) (ed_var 0 rfl) rfl) ed_int IX.t0) rfl) (ED.eq (ed_lst (eo_lst (ad_cons ed_str (ad_cons ed_str (ad_cons ed_str (ad_cons ed_str ad_nil)))))) (show _ = D.lst (opL4.map .str) from rfl)) (c2_inStr (ys := opL4) (.lst _)) (by rfl)) (opS_notP o)) (fun hc9 => ?_) (fun hc9 => ?_))
        · skip
          cases hc9
        · skip
          clear hc9
          refine ws_nil ?_
          refine ws_cons (ws_ret (ED.eq (ED.eq (ed_lst (eo_cat (ed_lst (eo_lst (ad_cons (ED.eq (d' := .str (opS o)) (ed_ix (ED.eq (d' := .tup [.str (opS o), .int n, y.e]) (ed_var 0 rfl) rfl) ed_int IX.t0) rfl) (ad_cons (ed_callT (T := "str") (by rfl) B.«str» bb_str (ad_cons (ED.eq (d' := .int n) (ed_ix (ED.eq (d' := .tup [.str (opS o), .int n, y.e]) (ed_var 0 rfl) rfl) ed_int IX.t1) rfl) ad_nil) (bc_strI (szE_rz hsz).sm.log)) ad_nil)))) (ed_var 1 rfl) (by simp only [List.length_append, List.length_cons, List.length_map, List.length_nil]; rw [sizeLine_eq]; omega))) (show _ = D.lst ((exW (Ex.siz o n y)).map .str) by rw [exW_siz]; simp; rfl)) ?_) (Or.inl rfl))
          rfl
abbrev s_law_qwords_q5 : Stmt := top 51
theorem sc_law_qwords_q5 : FnScope ["expression", "part"] ["expression"] (defScope s_law_qwords_q5) := ⟨rfl, rfl, rfl, by decide +kernel, rfl, by decide +kernel, by decide +kernel⟩
theorem ok_law_qwords_q5 {f : Addr} {fd : FuncData} (F : Fun K "_law_qwords" "_law_qwords" s_law_qwords_q5 f fd) (B : Bt mg) (KC : Kt K mg) (KL : Lt K mg) (WD : Zdt K w mg) (G_law_qwords_q4 : Fn P w K mg base "_law_qwords" 4 R_law_qwords_q4) (G_law_qwords_q4 : Fn P w K mg base "_law_qwords" 4 R_law_qwords_q4) :
    FnOk P w K mg base CX0 5 f fd ["expression"] (spR K R_law_qwords_q5) := by
  refine fn_ok (k := 4) F sc_law_qwords_q5 (fun ds d h => by cases h <;> rfl) fun ds d hR cdv A outer s H E hr => ?_
  have nd := sc_law_qwords_q5.nd
  have hu := hr.units
  rcases hR with ⟨L, d, x, hx, hd⟩
  walk_at "en"
  rcases x with n | ⟨o, l, r⟩ | ⟨o, n, y⟩
  · skip
    refine ws_cons (ws_if (TD.eq (td_cmp (ED.eq (d' := .str "layer") (ed_ix (ED.eq (d' := .tup [.str "layer", .str n]) (ed_var 0 rfl) rfl) ed_int IX.t0) rfl) ed_str c2_eqS (by rfl)) rfl) (fun hc1 => ?_) (fun hc1 => ?_))
    · skip
      clear hc1
      refine ws_cons (ws_ret (ED.eq (ed_lst (eo_lst (ad_cons (ED.eq (d' := .str n) (ed_ix (ED.eq (d' := .tup [.str "layer", .str n]) (ed_var 0 rfl) rfl) ed_int IX.t1) rfl) ad_nil))) ?_) (Or.inl rfl))
      rfl
    · skip
      cases hc1
  · skip
    have hlr := two_lem hx
    have hdl : l.dep ≤ 4 ∧ r.dep ≤ 4 := by unfold Ex.dep at hd; omega
    have hl76 := ex_len5 (show (Ex.two o l r).dep ≤ 5 by omega)
    have hr76 := ex_len5 (show r.dep ≤ 5 by omega)
    have hpt := pt_len (x := r)
    rw [exW_two, List.length_append, List.length_cons] at hl76
    refine ws_cons (ws_if (TD.eq (td_cmp (ED.eq (d' := .str (opP o)) (ed_ix (ED.eq (d' := .tup [.str (opP o), l.e, r.e]) (ed_var 0 rfl) rfl) ed_int IX.t0) rfl) ed_str c2_eqS (by rfl)) (opP_lay o)) (fun hc2 => ?_) (fun hc2 => ?_))
    · skip
      cases hc2
    · skip
      clear hc2
      refine ws_nil ?_
      refine ws_cons (ws_set 1 nd (ed_call G_law_qwords_q4 (hr.mono (by decide)) (by rfl) (ad_cons (ED.eq (d' := r.e) (ed_ix (ED.eq (d' := .tup [.str (opP o), l.e, r.e]) (ed_var 0 rfl) rfl) ed_int IX.t2) rfl) ad_nil) (by first | exact .mk L _ r hlr.2 hdl.2 | exact .mk L _ l hlr.1 hdl.1)) ?_)
      walk_at "env"
      refine ws_cons (ws_if (TD.eq (td_cmp (ed_ix (ED.eq (ED.eq (d' := r.e) (ed_ix (ED.eq (d' := .tup [.str (opP o), l.e, r.e]) (ed_var 0 rfl) rfl) ed_int IX.t2) rfl) (ex_hd r)) ed_int IX.t0) (ED.eq (ed_lst (eo_lst (ad_cons ed_str (ad_cons ed_str (ad_cons ed_str (ad_cons ed_str ad_nil)))))) (show _ = D.lst (opL4.map .str) from rfl)) (c2_inStr (ys := opL4) (.lst _)) (by rfl)) (ex_inP r)) (fun hc3 => ?_) (fun hc3 => ?_))
      · skip
        have hp9 := ptW_t hc3
        refine ws_cons (ws_set 1 nd (ED.eq (ed_lst (eo_cat (ed_lst (eo_cat (ed_lst (eo_lst (ad_cons ed_str ad_nil))) (ed_var 1 rfl) (by simp only [List.length_append, List.length_cons, List.length_map, List.length_nil]; rw [sizeLine_eq]; omega))) (ed_lst (eo_lst (ad_cons ed_str ad_nil))) (by simp only [List.length_append, List.length_cons, List.length_map, List.length_nil]; rw [sizeLine_eq]; omega))) (show _ = D.lst ((ptW r).map .str) by rw [hp9]; simp)) ?_)
        walk_at "env"
        refine ws_nil ?_
        refine ws_cons (ws_if (TD.eq (td_cmp (ED.eq (d' := .str (opP o)) (ed_ix (ED.eq (d' := .tup [.str (opP o), l.e, r.e]) (ed_var 0 rfl) rfl) ed_int IX.t0) rfl) (ED.eq (ed_lst (eo_lst (ad_cons ed_str (ad_cons ed_str (ad_cons ed_str (ad_cons ed_str ad_nil)))))) (show _ = D.lst (opL4.map .str) from rfl)) (c2_inStr (ys := opL4) (.lst _)) (by rfl)) (opP_in o)) (fun hc4 => ?_) (fun hc4 => ?_))
        · skip
          clear hc4
          refine ws_cons (ws_ret (ED.eq (ED.eq (ed_lst (eo_cat (ed_lst (eo_cat (ed_call G_law_qwords_q4 (hr.mono (by decide)) (by rfl) (ad_cons (ED.eq (d' := l.e) (ed_ix (ED.eq (d' := .tup [.str (opP o), l.e, r.e]) (ed_var 0 rfl) rfl) ed_int IX.t1) rfl) ad_nil) (by first | exact .mk L _ r hlr.2 hdl.2 | exact .mk L _ l hlr.1 hdl.1)) (ed_lst (eo_lst (ad_cons (ED.eq (d' := .str (opP o)) (ed_ix (ED.eq (d' := .tup [.str (opP o), l.e, r.e]) (ed_var 0 rfl) rfl) ed_int IX.t0) rfl) ad_nil))) (by simp only [List.length_append, List.length_cons, List.length_map, List.length_nil]; rw [sizeLine_eq]; omega))) (ed_var 1 rfl) (by simp only [List.length_append, List.length_cons, List.length_map, List.length_nil]; rw [sizeLine_eq]; omega))) (show _ = D.lst ((exW (Ex.two o l r)).map .str) by rw [exW_two]; simp)) ?_) (Or.inl rfl))
          rfl
        · skip
          cases hc4
      · skip
        have hp9 := ptW_f hc3
        rw [← hp9]
        refine ws_nil ?_
        refine ws_cons (ws_if (TD.eq (td_cmp (ED.eq (d' := .str (opP o)) (ed_ix (ED.eq (d' := .tup [.str (opP o), l.e, r.e]) (ed_var 0 rfl) rfl) ed_int IX.t0) rfl) (ED.eq (ed_lst (eo_lst (ad_cons ed_str (ad_cons ed_str (ad_cons ed_str (ad_cons ed_str ad_nil)))))) (show _ = D.lst (opL4.map .str) from rfl)) (c2_inStr (ys := opL4) (.lst _)) (by rfl)) (opP_in o)) (fun hc5 => ?_) (fun hc5 => ?_))
        · skip
          clear hc5
          refine ws_cons (ws_ret (ED.eq (ED.eq (ed_lst (eo_cat (ed_lst (eo_cat (ed_call G_law_qwords_q4 (hr.mono (by decide)) (by rfl) (ad_cons (ED.eq (d' := l.e) (ed_ix (ED.eq (d' := .tup [.str (opP o), l.e, r.e]) (ed_var 0 rfl) rfl) ed_int IX.t1) rfl) ad_nil) (by first | exact .mk L _ r hlr.2 hdl.2 | exact .mk L _ l hlr.1 hdl.1)) (ed_lst (eo_lst (ad_cons (ED.eq (d' := .str (opP o)) (ed_ix (ED.eq (d' := .tup [.str (opP o), l.e, r.e]) (ed_var 0 rfl) rfl) ed_int IX.t0) rfl) ad_nil))) (by simp only [List.length_append, List.length_cons, List.length_map, List.length_nil]; rw [sizeLine_eq]; omega))) (ed_var 1 rfl) (by simp only [List.length_append, List.length_cons, List.length_map, List.length_nil]; rw [sizeLine_eq]; omega))) (show _ = D.lst ((exW (Ex.two o l r)).map .str) by rw [exW_two]; simp)) ?_) (Or.inl rfl))
          rfl
        · skip
          cases hc5
  · skip
    obtain ⟨hsz, hy⟩ := siz_lem hx
    have hdy : y.dep ≤ 4 := by unfold Ex.dep at hd; omega
    have hl76 := ex_len5 (show (Ex.siz o n y).dep ≤ 5 by omega)
    have hr76 := ex_len5 (show y.dep ≤ 5 by omega)
    have hpt := pt_len (x := y)
    rw [exW_siz, List.length_cons, List.length_cons] at hl76
    refine ws_cons (ws_if (TD.eq (td_cmp (ED.eq (d' := .str (opS o)) (ed_ix (ED.eq (d' := .tup [.str (opS o), .int n, y.e]) (ed_var 0 rfl) rfl) ed_int IX.t0) rfl) ed_str c2_eqS (by rfl)) (opS_lay o)) (fun hc6 => ?_) (fun hc6 => ?_))
    · skip
      cases hc6
    · skip
      clear hc6
      refine ws_nil ?_
      refine ws_cons (ws_set 1 nd (ed_call G_law_qwords_q4 (hr.mono (by decide)) (by rfl) (ad_cons (ED.eq (d' := y.e) (ed_ix (ED.eq (d' := .tup [.str (opS o), .int n, y.e]) (ed_var 0 rfl) rfl) ed_int IX.t2) rfl) ad_nil) (by exact .mk L _ y hy hdy)) ?_)
      walk_at "env"
      refine ws_cons (ws_if (TD.eq (td_cmp (ed_ix (ED.eq (ED.eq (d' := y.e) (ed_ix (ED.eq (d' := .tup [.str (opS o), .int n, y.e]) (ed_var 0 rfl) rfl) ed_int IX.t2) rfl) (ex_hd y)) ed_int IX.t0) (ED.eq (ed_lst (eo_lst (ad_cons ed_str (ad_cons ed_str (ad_cons ed_str (ad_cons ed_str ad_nil)))))) (show _ = D.lst (opL4.map .str) from rfl)) (c2_inStr (ys := opL4) (.lst _)) (by rfl)) (ex_inP y)) (fun hc7 => ?_) (fun hc7 => ?_))
      · skip
        have hp9 := ptW_t hc7
        refine ws_cons (ws_set 1 nd (ED.eq (ed_lst (eo_cat (ed_lst (eo_cat (ed_lst (eo_lst (ad_cons ed_str ad_nil))) (ed_var 1 rfl) (by simp only [List.length_append, List.length_cons, List.length_map, List.length_nil]; rw [sizeLine_eq]; omega))) (ed_lst (eo_lst (ad_cons ed_str ad_nil))) (by simp only [List.length_append, List.length_cons, List.length_map, List.length_nil]; rw [sizeLine_eq]; omega))) (show _ = D.lst ((ptW y).map .str) by rw [hp9]; simp)) ?_)
        walk_at "env"
        refine ws_nil ?_
        refine ws_cons (ws_if (TD.eq (td_cmp (ED.eq (d' := .str (opS o)) (ed_ix (ED.eq (d' := .tup [.str (opS o), .int n, y.e]) (ed_var 0 rfl) rfl) ed_int IX.t0) rfl) (ED.eq (ed_lst (eo_lst (ad_cons ed_str (ad_cons ed_str (ad_cons ed_str (ad_cons ed_str ad_nil)))))) (show _ = D.lst (opL4.map .str) from rfl)) (c2_inStr (ys := opL4) (.lst _)) (by rfl)) (opS_notP o)) (fun hc8 => ?_) (fun hc8 => ?_))
        · skip
          cases hc8
        · skip
          clear hc8
          refine ws_nil ?_
          refine ws_cons (ws_ret (ED.eq (ED.eq (ed_lst (eo_cat (ed_lst (eo_lst (ad_cons (ED.eq (d' := .str (opS o)) (ed_ix (ED.eq (d' := .tup [.str (opS o), .int n, y.e]) (ed_var 0 rfl) rfl) ed_int IX.t0) rfl) (ad_cons (ed_callT (T := "str") (by rfl) B.«str» bb_str (ad_cons (ED.eq (d' := .int n) (ed_ix (ED.eq (d' := .tup [.str (opS o), .int n, y.e]) (ed_var 0 rfl) rfl) ed_int IX.t1) rfl) ad_nil) (bc_strI (szE_rz hsz).sm.log)) ad_nil)))) (ed_var 1 rfl) (by simp only [List.length_append, List.length_cons, List.length_map, List.length_nil]; rw [sizeLine_eq]; omega))) (show _ = D.lst ((exW (Ex.siz o n y)).map .str) by rw [exW_siz]; simp; rfl)) ?_) (Or.inl rfl))
          rfl
      · skip
        have hp9 := ptW_f hc7
        rw [← hp9]
        refine ws_nil ?_
        refine ws_cons (ws_if (TD.eq (td_cmp (ED.eq (d' := .str (opS o)) (ed_ix (ED.eq (d' := .tup [.str (opS o), .int n, y.e]) (ed_var 0 rfl) rfl) ed_int IX.t0) rfl) (ED.eq (ed_lst (eo_lst (ad_cons ed_str (ad_cons ed_str (ad_cons ed_str (ad_cons ed_str ad_nil)))))) (show _ = D.lst (opL4.map .str) from rfl)) (c2_inStr (ys := opL4) (.lst _)) (by rfl)) (opS_notP o)) (fun hc9 => ?_) (fun hc9 => ?_))
        · skip
          cases hc9
        · skip
          clear hc9
          refine ws_nil ?_
          refine ws_cons (ws_ret (ED.eq (ED.eq (ed_lst (eo_cat (ed_lst (eo_lst (ad_cons (ED.eq (d' := .str (opS o)) (ed_ix (ED.eq (d' := .tup [.str (opS o), .int n, y.e]) (ed_var 0 rfl) rfl) ed_int IX.t0) rfl) (ad_cons (ed_callT (T := "str") (by rfl) B.«str» bb_str (ad_cons (ED.eq (d' := .int n) (ed_ix (ED.eq (d' := .tup [.str (opS o), .int n, y.e]) (ed_var 0 rfl) rfl) ed_int IX.t1) rfl) ad_nil) (bc_strI (szE_rz hsz).sm.log)) ad_nil)))) (ed_var 1 rfl) (by simp only [List.length_append, List.length_cons, List.length_map, List.length_nil]; rw [sizeLine_eq]; omega))) (show _ = D.lst ((exW (Ex.siz o n y)).map .str) by rw [exW_siz]; simp; rfl)) ?_) (Or.inl rfl))
          rfl
abbrev s_law_qdeck_lines : Stmt := top 52
theorem sc_law_qdeck_lines : FnScope ["definitions", "rules", "lines", "row", "rule", "element"] ["definitions", "rules"] (defScope s_law_qdeck_lines) := ⟨rfl, rfl, rfl, by decide +kernel, rfl, by decide +kernel, by decide +kernel⟩
theorem ok_law_qdeck_lines {f : Addr} {fd : FuncData} (F : Fun K "_law_qdeck_lines" "_law_qdeck_lines" s_law_qdeck_lines f fd) (B : Bt mg) (KC : Kt K mg) (KL : Lt K mg) (WD : Zdt K w mg) (G_law_qwords_q5 : Fn P w K mg base "_law_qwords" 5 R_law_qwords_q5) (G_law_qwords_q5 : Fn P w K mg base "_law_qwords" 5 R_law_qwords_q5) :
    FnOk P w K mg base CX0 6 f fd ["definitions", "rules"] (spR K R_law_qdeck_lines) := by
  refine fn_ok (k := 5) F sc_law_qdeck_lines (fun ds d h => by cases h <;> rfl) fun ds d hR cdv A outer s H E hr => ?_
  have nd := sc_law_qdeck_lines.nd
  have hu := hr.units
  rcases hR with ⟨F, Q, t⟩
  have hwl := dkW_len F Q
  have hfl6 := t.fl
  have hql6 := t.ql
  have l8 := lens
  walk_at "en"
  refine ws_cons (ws_setMap2 2 [("row", 3)] (F) (Df.e) (fun f : Df => lnW (dfW f)) (D.str) rfl nd (blkOk_by (N := ["definitions", "rules", "lines", "row", "rule", "element"]) (sc := defScope s_law_qdeck_lines) (by decide +kernel)) (id_list (ed_var 0 rfl)) (rfl) (fun f hxm => by obtain ⟨L9, hL9, hx9, hdp, hnb, hws⟩ := t.df hxm; exact ⟨_, by rfl, fun _ _ _ _ _ => ⟨(dg_name 3 nd), tds_nil, (ED.eq (ed_join (zs := dfW f) ed_str (.lst _) (ED.eq (ed_lst (eo_cat (ed_lst (eo_lst (ad_cons ed_str (ad_cons (ed_ix (ED.eq (d' := .tup [.str f.1, f.2.e]) (ed_var 3 rfl) rfl) ed_int IX.t0) ad_nil)))) (ed_call G_law_qwords_q5 (hr.mono (by decide)) (by rfl) (ad_cons (ed_ix (ED.eq (d' := .tup [.str f.1, f.2.e]) (ed_var 3 rfl) rfl) ed_int IX.t1) ad_nil) (by exact .mk L9 12 f.2 hx9 hdp)) (by have h9 := ex_len5 hdp; simp only [List.length_append, List.length_cons, List.length_map, List.length_nil]; rw [sizeLine_eq]; omega))) (show _ = D.lst ((dfW f).map .str) from rfl)) (Nat.le_trans hws.room (by omega))) (show _ = D.str (lnW (dfW f)) from rfl))⟩⟩) (by rw [sizeLine_eq]; omega) ?_)
  walk_at "env"
  refine ws_cons (ws_ret (ED.eq (ed_lst (eo_catO 2 rfl (ed_lst (eo_map2 [("rule", 4)] (Q) (ruX) (fun r : RuX => lnW (ruW r)) (D.str) rfl nd (blkOk_by (N := ["definitions", "rules", "lines", "row", "rule", "element"]) (sc := defScope s_law_qdeck_lines) (by decide +kernel)) (id_list (ed_var 1 rfl)) (rfl) (fun r hxm => by have hrm9 := hxm; exact ⟨_, by rfl, fun _ _ _ _ _ => ⟨(dg_name 4 nd), tds_nil, (ED.eq (ed_join (zs := ruW r) ed_str (.lst _) (ED.eq (ed_lst (eo_cat (ed_lst (eo_lst (ad_cons ed_str ad_nil))) (ed_lst (eo_map2 [("element", 5)] ((ruX9 r).tail) (wxE) (wxT) (D.str) rfl nd (blkOk_by (N := ["definitions", "rules", "lines", "row", "rule", "element"]) (sc := rbScope9 s_law_qdeck_lines) (by decide +kernel)) (id_tup (ED.eq (ed_var 4 rfl) (show _ = D.tup ((ruX9 r).tail.map wxE) by unfold ruX rDs ruX9; simp [wxE]; rfl))) (rfl) (fun w hxm => ⟨_, by rfl, fun _ _ _ _ _ => ⟨(dg_name 5 nd), tds_nil, (by rcases w with y | y; exact (ed_callT (T := "str") (by rfl) B.«str» bb_str (ad_cons (ed_var 5 rfl) ad_nil) bc_strS); exact (ed_callT (T := "str") (by rfl) B.«str» bb_str (ad_cons (ed_var 5 rfl) ad_nil) (bc_strI (dkX_rz t (List.mem_append_right _ (List.mem_map.mpr ⟨r, hrm9, rfl⟩)) (List.mem_of_mem_tail hxm)).sm.log)))⟩⟩) (by have h9 := form_len (t.ok.s.fm r hrm9); unfold ruX9; simp only [List.tail_cons, List.length_append, List.length_cons, List.length_map, List.length_nil]; rw [sizeLine_eq]; omega))) (by have h9 := form_len (t.ok.s.fm r hxm); unfold ruX9; simp only [List.tail_cons, List.length_append, List.length_cons, List.length_map, List.length_nil]; rw [sizeLine_eq]; omega))) (show _ = D.lst ((ruW r).map .str) by rw [← ruX_w]; rfl)) (Nat.le_trans (t.ruw hxm).room (by omega))) (show _ = D.str (lnW (ruW r)) from rfl))⟩⟩) (by rw [sizeLine_eq]; omega))) (by simp only [List.length_map]; rw [sizeLine_eq]; omega))) ?_) (Or.inl rfl))
  unfold dkW
  simp
  rfl
abbrev s_law : Stmt := top 53
theorem sc_law : FnScope ["script", "definitions", "names", "rules", "text", "deck", "row"] ["script"] (defScope s_law) := ⟨rfl, rfl, rfl, by decide +kernel, rfl, by decide +kernel, by decide +kernel⟩
theorem ok_law {f : Addr} {fd : FuncData} (F : Fun K "law" "law" s_law f fd) (B : Bt mg) (KC : Kt K mg) (KL : Lt K mg) (WD : Zdt K w mg) (G_Deck_init : FnI P w K mg base "Deck" 15 R_Deck_init) (G_law_cell : Fn P w K mg base "_law_cell" 1 R_law_cell) (G_law_is_text : Fn P w K mg base "_law_is_text" 1 R_law_is_text) (G_law_layers : Fn P w K mg base "_law_layers" 1 R_law_layers) (G_law_like_m7 : Fn P w K mg base "_law_like" 9 R_law_like_m7) (G_law_like_m7 : Fn P w K mg base "_law_like" 9 R_law_like_m7) (G_law_qdeck_lines : Fn P w K mg base "_law_qdeck_lines" 6 R_law_qdeck_lines) (G_law_qdefinitions : Fn P w K mg base "_law_qdefinitions" 6 R_law_qdefinitions) (G_law_qrules : Fn P w K mg base "_law_qrules" 2 R_law_qrules) (G_format_deck : Fn P w K mg base "format_deck" 11 R_format_deck) (G_parse_deck : Fn P w K mg base "parse_deck" 20 R_parse_deck) :
    FnOk P w K mg base CX0 21 f fd ["script"] (spR K R_law) := by
  refine fn_ok (k := 20) F sc_law (fun ds d h => by cases h <;> rfl) fun ds d hR cdv A outer s H E hr => ?_
  have nd := sc_law.nd
  have hu := hr.units
  rcases hR with ⟨ns, hlen⟩
  obtain ⟨n9, hn9⟩ : ∃ n : Nat, n = (dr (cellAt ns 0) 90 89 % (6 + 1)).toNat := ⟨_, rfl⟩
  have hn6 : n9 ≤ 6 := by omega
  obtain ⟨F, hF⟩ : ∃ F, F = qDfs5 (cellAt ns 0) 5 n9 := ⟨_, rfl⟩
  obtain ⟨Q, hQ⟩ : ∃ Q, Q = qRus (lyN F) (cellAt ns 1) 6 := ⟨_, rfl⟩
  have t : DkT F Q := by rw [hQ, hF]; exact q_dkT hn6
  have hfl6 := t.fl
  have hql6 := t.ql
  have hwl := dkW_len F Q
  have hmF := t.mdF
  have hmQ := t.mdQ
  walk_at "en"
  refine ws_cons (ws_set 1 nd (ED.eq (ed_call G_law_qdefinitions (hr.mono (by decide)) (by rfl) (ad_cons (ed_call G_law_cell (hr.mono (by decide)) (by rfl) (ad_cons (ed_var 0 rfl) (ad_cons ed_int ad_nil)) (by exact .mk _ _ (by omega))) (ad_cons ed_int (ad_cons ed_int ad_nil))) (by exact .mk _ 6 5 (by decide) (by decide))) (show _ = (D.lst (F.map Df.e)) from by rw [hF, hn9])) ?_)
  walk_at "env"
  refine ws_cons (ws_setO 2 nd (EO.eq (c' := .lst ((lyN F).map .str)) (eo_cat (ed_call0 G_law_layers (hr.mono (by decide)) (by rfl) (by walk_at "mk")) (ed_lst (eo_map2 [("row", 6)] (F) (Df.e) (fun f : Df => f.1) (D.str) rfl nd (blkOk_by (N := ["script", "definitions", "names", "rules", "text", "deck", "row"]) (sc := defScope s_law) (by decide +kernel)) (id_list (ed_var 1 rfl)) (rfl) (fun f hxm => ⟨_, by rfl, fun _ _ _ _ _ => ⟨(dg_name 6 nd), tds_nil, (ed_ix (ED.eq (d' := .tup [.str f.1, f.2.e]) (ed_var 6 rfl) rfl) ed_int IX.t0)⟩⟩) (by rw [sizeLine_eq]; omega))) (by simp only [List.length_map]; rw [sizeLine_eq]; show 7 + F.length ≤ _; omega)) (by unfold lyN; rw [List.map_append, List.map_map])) ?_)
  refine ws_share 2 rfl ?_
  walk_at "env"
  refine ws_cons (ws_set 3 nd (ED.eq (ed_call G_law_qrules (hr.mono (by decide)) (by rfl) (ad_cons (ed_call G_law_cell (hr.mono (by decide)) (by rfl) (ad_cons (ed_var 0 rfl) (ad_cons ed_int ad_nil)) (by exact .mk _ _ (by omega))) (ad_cons ed_int (ad_cons (ed_var 2 rfl) ad_nil))) (by exact .mk (lyN F) _ 6 (by decide) (by rw [lyN_len]; omega))) (show _ = (D.lst (Q.map ruX)) from by rw [hQ])) ?_)
  walk_at "env"
  refine ws_cons (ws_set 4 nd (ED.eq (ed_join (zs := (dkW F Q).map lnW) ed_str (.lst _) (ed_call G_law_qdeck_lines (hr.mono (by decide)) (by rfl) (ad_cons (ed_var 1 rfl) (ad_cons (ed_var 3 rfl) ad_nil)) (by exact .mk F Q t)) (Nat.le_trans (txD_room t.ws (by omega)) (by omega))) (show _ = D.str (txD (dkW F Q)) from rfl)) ?_)
  walk_at "env"
  refine ws_cons (ws_if (td_not (td_truth (ed_call G_law_is_text (hr.mono (by decide)) (by rfl) (ad_cons (ed_call G_format_deck (hr.mono (by decide)) (by rfl) (ad_cons (ED.eq (ed_own (eo_make G_Deck_init (hr.mono (by decide)) (by rfl) (ad_cons (ed_lst (eo_callT (T := "list") (by rfl) B.«list» bb_list (ad_cons (ed_var 1 rfl) ad_nil) (by walk_at "bo"))) (ad_cons (ed_lst (eo_callT (T := "list") (by rfl) B.«list» bb_list (ad_cons (ed_var 3 rfl) ad_nil) (by walk_at "bo"))) ad_nil)) (by exact .mk F Q t.ok))) (show _ = (dkD F Q) from by rfl)) ad_nil) (by exact .mk F Q t)) (ad_cons (ed_var 4 rfl) ad_nil)) (by exact .mk _)) rfl)) (fun hc2 => ?_) (fun hc2 => ?_))
  · skip
    exfalso; simp at hc2
  · skip
    clear hc2
    refine ws_nil ?_
    refine ws_cons (ws_set 5 nd (ed_call G_parse_deck (hr.mono (by decide)) (by rfl) (ad_cons (ed_var 4 rfl) ad_nil) (by exact .mk F Q t)) ?_)
    walk_at "env"
    refine ws_cons (ws_if (td_tw (tw_or (td_not (td_truth (ed_isC KL.«Deck» (by rfl) B.«isinstance» (by rfl) (ed_var 5 rfl)) rfl)) (fun hb4 => (tw_or1 (td_not (td_truth (ed_call G_law_like_m7 (hr.mono (by decide)) (by rfl) (ad_cons (ed_fld 0 KL.«Deck» (ed_var 5 rfl)) (ad_cons (ed_callT (T := "tuple") (by rfl) B.«tuple» bb_tuple (ad_cons (ed_var 1 rfl) ad_nil) (by walk_at "bc")) ad_nil)) (by first | exact .mk _ (by rw [List.length_map]; omega) hmF | exact .mk _ (by rw [List.length_map]; omega) hmQ)) rfl)))))) (fun hc3 => ?_) (fun hc3 => ?_))
    · skip
      exfalso; simp at hc3
    · skip
      clear hc3
      unfold dkD
      refine ws_nil ?_
      refine ws_cons (ws_ret (ED.eq (ed_and (ed_call G_law_like_m7 (hr.mono (by decide)) (by rfl) (ad_cons (ed_fld 1 KL.«Deck» (ed_var 5 rfl)) (ad_cons (ed_callT (T := "tuple") (by rfl) B.«tuple» bb_tuple (ad_cons (ed_var 3 rfl) ad_nil) (by walk_at "bc")) ad_nil)) (by first | exact .mk _ (by rw [List.length_map]; omega) hmF | exact .mk _ (by rw [List.length_map]; omega) hmQ)) (fun hb5 => (ed_one (ed_call G_law_is_text (hr.mono (by decide)) (by rfl) (ad_cons (ed_call G_format_deck (hr.mono (by decide)) (by rfl) (ad_cons (ed_var 5 rfl) ad_nil) (by exact .mk F Q t)) (ad_cons (ed_var 4 rfl) ad_nil)) (by exact .mk _))))) ?_) (Or.inl rfl))
      rfl
end
theorem all_mk {l : PySem.W.OpenLaw} {w : World} {K : PySem.W.Frag} {h : Heap} {mg : Str → Option Value} {fa : Addr} (X : K.In h) (G : h.Ns mainGlobals mg) (hfa : mg "law" = some (.ref fa))
    {C_Deck : Addr} (aC_Deck : PySem.W.nsIn K mainGlobals "Deck" = some (some (.ref C_Deck)))
    (pg_Deck : PySem.W.plainGet K C_Deck Str.empty = true) (hd_Deck : PySem.W.hasDictIn K C_Deck = true) (po_Deck : PySem.W.plainOver K C_Deck = true) (sa_Deck : PySem.W.findIn K (.ref C_Deck) "__setattr__" = some (some (.builtin "object.__setattr__"))) (ha_Deck : PySem.W.findIn K (.ref C_Deck) "__class__" = some (some (.builtin "object.__class__"))) (hn_Deck : PySem.W.specialIn K (.builtin "object.__class__") "__get__" = some (some (.builtin "getset_descriptor.__get__"))) (htk_Deck : PySem.W.takesIn K (.builtin "object.__class__") = some true) (hm_Deck : PySem.W.mroIn K C_Deck (.type "object") = some true) (kc_Deck : PySem.W.keepIn K (.ref C_Deck) = true) (mk_Deck : PySem.W.makesIn K C_Deck = true)
    (na0_Deck : PySem.W.findIn K (.ref C_Deck) "definitions" = some none)
    (na1_Deck : PySem.W.findIn K (.ref C_Deck) "rules" = some none)
    {C_Reader : Addr} (aC_Reader : PySem.W.nsIn K mainGlobals "Reader" = some (some (.ref C_Reader)))
    (pg_Reader : PySem.W.plainGet K C_Reader Str.empty = true) (hd_Reader : PySem.W.hasDictIn K C_Reader = true) (po_Reader : PySem.W.plainOver K C_Reader = true) (sa_Reader : PySem.W.findIn K (.ref C_Reader) "__setattr__" = some (some (.builtin "object.__setattr__"))) (ha_Reader : PySem.W.findIn K (.ref C_Reader) "__class__" = some (some (.builtin "object.__class__"))) (hn_Reader : PySem.W.specialIn K (.builtin "object.__class__") "__get__" = some (some (.builtin "getset_descriptor.__get__"))) (htk_Reader : PySem.W.takesIn K (.builtin "object.__class__") = some true) (hm_Reader : PySem.W.mroIn K C_Reader (.type "object") = some true) (kc_Reader : PySem.W.keepIn K (.ref C_Reader) = true) (mk_Reader : PySem.W.makesIn K C_Reader = true)
    (na0_Reader : PySem.W.findIn K (.ref C_Reader) "_words" = some none)
    (na1_Reader : PySem.W.findIn K (.ref C_Reader) "_layers" = some none)
    (na2_Reader : PySem.W.findIn K (.ref C_Reader) "_line" = some none)
    (na3_Reader : PySem.W.findIn K (.ref C_Reader) "_at" = some none)
    {f0 : Addr} {od0 an0 : Option Addr} {sl0 : Array (Option Value)} {oc0 kV0 dc0 pm0 cd0 ct0 : Value} (a0 : PySem.W.nsIn K mainGlobals "is_name" = some (some (.ref f0))) (l0 : K.lookup f0 = some ⟨oc0, od0, .func (PySem.W.fnOf "is_name" "is_name" (defArgs s_is_name) (defBody s_is_name) (defScope s_is_name) .none kV0 dc0 pm0 an0 cd0 ct0), sl0⟩) (c0 : PySem.W.codeIn K cd0 "is_name" = true) (k0 : PySem.W.keepIn K (.ref f0) = true)
    {f1 : Addr} {od1 an1 : Option Addr} {sl1 : Array (Option Value)} {oc1 kV1 dc1 pm1 cd1 ct1 : Value} (a1 : PySem.W.nsIn K mainGlobals "rule_layers" = some (some (.ref f1))) (l1 : K.lookup f1 = some ⟨oc1, od1, .func (PySem.W.fnOf "rule_layers" "rule_layers" (defArgs s_rule_layers) (defBody s_rule_layers) (defScope s_rule_layers) .none kV1 dc1 pm1 an1 cd1 ct1), sl1⟩) (c1 : PySem.W.codeIn K cd1 "rule_layers" = true) (k1 : PySem.W.keepIn K (.ref f1) = true)
    {f2 : Addr} {od2 an2 : Option Addr} {sl2 : Array (Option Value)} {oc2 kV2 dc2 pm2 cd2 ct2 : Value} (a2 : PySem.W.nsIn K mainGlobals "rule_numbers" = some (some (.ref f2))) (l2 : K.lookup f2 = some ⟨oc2, od2, .func (PySem.W.fnOf "rule_numbers" "rule_numbers" (defArgs s_rule_numbers) (defBody s_rule_numbers) (defScope s_rule_numbers) .none kV2 dc2 pm2 an2 cd2 ct2), sl2⟩) (c2 : PySem.W.codeIn K cd2 "rule_numbers" = true) (k2 : PySem.W.keepIn K (.ref f2) = true)
    {f3 : Addr} {od3 an3 : Option Addr} {sl3 : Array (Option Value)} {oc3 kV3 dc3 pm3 cd3 ct3 : Value} (a3 : PySem.W.nsIn K mainGlobals "is_rule_over" = some (some (.ref f3))) (l3 : K.lookup f3 = some ⟨oc3, od3, .func (PySem.W.fnOf "is_rule_over" "is_rule_over" (defArgs s_is_rule_over) (defBody s_is_rule_over) (defScope s_is_rule_over) .none kV3 dc3 pm3 an3 cd3 ct3), sl3⟩) (c3 : PySem.W.codeIn K cd3 "is_rule_over" = true) (k3 : PySem.W.keepIn K (.ref f3) = true)
    {f4 : Addr} {od4 an4 : Option Addr} {sl4 : Array (Option Value)} {oc4 kV4 dc4 pm4 cd4 ct4 : Value} (a4 : PySem.W.nsIn K mainGlobals "parts_of" = some (some (.ref f4))) (l4 : K.lookup f4 = some ⟨oc4, od4, .func (PySem.W.fnOf "parts_of" "parts_of" (defArgs s_parts_of) (defBody s_parts_of) (defScope s_parts_of) .none kV4 dc4 pm4 an4 cd4 ct4), sl4⟩) (c4 : PySem.W.codeIn K cd4 "parts_of" = true) (k4 : PySem.W.keepIn K (.ref f4) = true)
    {f5 : Addr} {od5 an5 : Option Addr} {sl5 : Array (Option Value)} {oc5 kV5 dc5 pm5 cd5 ct5 : Value} (a5 : PySem.W.nsIn K mainGlobals "is_size" = some (some (.ref f5))) (l5 : K.lookup f5 = some ⟨oc5, od5, .func (PySem.W.fnOf "is_size" "is_size" (defArgs s_is_size) (defBody s_is_size) (defScope s_is_size) .none kV5 dc5 pm5 an5 cd5 ct5), sl5⟩) (c5 : PySem.W.codeIn K cd5 "is_size" = true) (k5 : PySem.W.keepIn K (.ref f5) = true)
    {f6 : Addr} {od6 an6 : Option Addr} {sl6 : Array (Option Value)} {oc6 kV6 dc6 pm6 cd6 ct6 : Value} (a6 : PySem.W.nsIn K mainGlobals "is_expression_over" = some (some (.ref f6))) (l6 : K.lookup f6 = some ⟨oc6, od6, .func (PySem.W.fnOf "is_expression_over" "is_expression_over" (defArgs s_is_expression_over_z0) (defBody s_is_expression_over_z0) (defScope s_is_expression_over_z0) .none kV6 dc6 pm6 an6 cd6 ct6), sl6⟩) (c6 : PySem.W.codeIn K cd6 "is_expression_over" = true) (k6 : PySem.W.keepIn K (.ref f6) = true)
    {f7 : Addr} {od7 an7 : Option Addr} {sl7 : Array (Option Value)} {oc7 kV7 dc7 pm7 cd7 ct7 : Value} (a7 : PySem.W.nsIn K mainGlobals "is_new_layer" = some (some (.ref f7))) (l7 : K.lookup f7 = some ⟨oc7, od7, .func (PySem.W.fnOf "is_new_layer" "is_new_layer" (defArgs s_is_new_layer) (defBody s_is_new_layer) (defScope s_is_new_layer) .none kV7 dc7 pm7 an7 cd7 ct7), sl7⟩) (c7 : PySem.W.codeIn K cd7 "is_new_layer" = true) (k7 : PySem.W.keepIn K (.ref f7) = true)
    {f8 : Addr} {od8 an8 : Option Addr} {sl8 : Array (Option Value)} {oc8 kV8 dc8 pm8 cd8 ct8 : Value} (a8 : PySem.W.findIn K (.ref C_Deck) "__init__" = some (some (.ref f8))) (i8 : PySem.W.isFn K (.ref f8) = true) (l8 : K.lookup f8 = some ⟨oc8, od8, .func (PySem.W.fnOf "__init__" "Deck.__init__" (defArgs s_Deck_init) (defBody s_Deck_init) (defScope s_Deck_init) .none kV8 dc8 pm8 an8 cd8 ct8), sl8⟩) (c8 : PySem.W.codeIn K cd8 "Deck.__init__" = true) (k8 : PySem.W.keepIn K (.ref f8) = true)
    {f9 : Addr} {od9 an9 : Option Addr} {sl9 : Array (Option Value)} {oc9 kV9 dc9 pm9 cd9 ct9 : Value} (a9 : PySem.W.nsIn K mainGlobals "is_integer" = some (some (.ref f9))) (l9 : K.lookup f9 = some ⟨oc9, od9, .func (PySem.W.fnOf "is_integer" "is_integer" (defArgs s_is_integer) (defBody s_is_integer) (defScope s_is_integer) .none kV9 dc9 pm9 an9 cd9 ct9), sl9⟩) (c9 : PySem.W.codeIn K cd9 "is_integer" = true) (k9 : PySem.W.keepIn K (.ref f9) = true)
    {f10 : Addr} {od10 an10 : Option Addr} {sl10 : Array (Option Value)} {oc10 kV10 dc10 pm10 cd10 ct10 : Value} (a10 : PySem.W.nsIn K mainGlobals "read_integers" = some (some (.ref f10))) (l10 : K.lookup f10 = some ⟨oc10, od10, .func (PySem.W.fnOf "read_integers" "read_integers" (defArgs s_read_integers) (defBody s_read_integers) (defScope s_read_integers) .none kV10 dc10 pm10 an10 cd10 ct10), sl10⟩) (c10 : PySem.W.codeIn K cd10 "read_integers" = true) (k10 : PySem.W.keepIn K (.ref f10) = true)
    {f11 : Addr} {od11 an11 : Option Addr} {sl11 : Array (Option Value)} {oc11 kV11 dc11 pm11 cd11 ct11 : Value} (a11 : PySem.W.nsIn K mainGlobals "expression_words" = some (some (.ref f11))) (l11 : K.lookup f11 = some ⟨oc11, od11, .func (PySem.W.fnOf "expression_words" "expression_words" (defArgs s_expression_words_e1) (defBody s_expression_words_e1) (defScope s_expression_words_e1) .none kV11 dc11 pm11 an11 cd11 ct11), sl11⟩) (c11 : PySem.W.codeIn K cd11 "expression_words" = true) (k11 : PySem.W.keepIn K (.ref f11) = true)
    {f12 : Addr} {od12 an12 : Option Addr} {sl12 : Array (Option Value)} {oc12 kV12 dc12 pm12 cd12 ct12 : Value} (a12 : PySem.W.nsIn K mainGlobals "part_words" = some (some (.ref f12))) (l12 : K.lookup f12 = some ⟨oc12, od12, .func (PySem.W.fnOf "part_words" "part_words" (defArgs s_part_words_e1) (defBody s_part_words_e1) (defScope s_part_words_e1) .none kV12 dc12 pm12 an12 cd12 ct12), sl12⟩) (c12 : PySem.W.codeIn K cd12 "part_words" = true) (k12 : PySem.W.keepIn K (.ref f12) = true)
    {f13 : Addr} {od13 an13 : Option Addr} {sl13 : Array (Option Value)} {oc13 kV13 dc13 pm13 cd13 ct13 : Value} (a13 : PySem.W.nsIn K mainGlobals "format_deck" = some (some (.ref f13))) (l13 : K.lookup f13 = some ⟨oc13, od13, .func (PySem.W.fnOf "format_deck" "format_deck" (defArgs s_format_deck) (defBody s_format_deck) (defScope s_format_deck) .none kV13 dc13 pm13 an13 cd13 ct13), sl13⟩) (c13 : PySem.W.codeIn K cd13 "format_deck" = true) (k13 : PySem.W.keepIn K (.ref f13) = true)
    {f14 : Addr} {od14 an14 : Option Addr} {sl14 : Array (Option Value)} {oc14 kV14 dc14 pm14 cd14 ct14 : Value} (a14 : PySem.W.findIn K (.ref C_Reader) "__init__" = some (some (.ref f14))) (i14 : PySem.W.isFn K (.ref f14) = true) (l14 : K.lookup f14 = some ⟨oc14, od14, .func (PySem.W.fnOf "__init__" "Reader.__init__" (defArgs s_Reader_init) (defBody s_Reader_init) (defScope s_Reader_init) .none kV14 dc14 pm14 an14 cd14 ct14), sl14⟩) (c14 : PySem.W.codeIn K cd14 "Reader.__init__" = true) (k14 : PySem.W.keepIn K (.ref f14) = true)
    {f15 : Addr} {od15 an15 : Option Addr} {sl15 : Array (Option Value)} {oc15 kV15 dc15 pm15 cd15 ct15 : Value} (a15 : PySem.W.findIn K (.ref C_Reader) "read_all" = some (some (.ref f15))) (i15 : PySem.W.isFn K (.ref f15) = true) (l15 : K.lookup f15 = some ⟨oc15, od15, .func (PySem.W.fnOf "read_all" "Reader.read_all" (defArgs s_Reader_read_all) (defBody s_Reader_read_all) (defScope s_Reader_read_all) .none kV15 dc15 pm15 an15 cd15 ct15), sl15⟩) (c15 : PySem.W.codeIn K cd15 "Reader.read_all" = true) (k15 : PySem.W.keepIn K (.ref f15) = true)
    {f16 : Addr} {od16 an16 : Option Addr} {sl16 : Array (Option Value)} {oc16 kV16 dc16 pm16 cd16 ct16 : Value} (a16 : PySem.W.findIn K (.ref C_Reader) "_next_word" = some (some (.ref f16))) (i16 : PySem.W.isFn K (.ref f16) = true) (l16 : K.lookup f16 = some ⟨oc16, od16, .func (PySem.W.fnOf "_next_word" "Reader._next_word" (defArgs s_Reader_next_word) (defBody s_Reader_next_word) (defScope s_Reader_next_word) .none kV16 dc16 pm16 an16 cd16 ct16), sl16⟩) (c16 : PySem.W.codeIn K cd16 "Reader._next_word" = true) (k16 : PySem.W.keepIn K (.ref f16) = true)
    {f17 : Addr} {od17 an17 : Option Addr} {sl17 : Array (Option Value)} {oc17 kV17 dc17 pm17 cd17 ct17 : Value} (a17 : PySem.W.findIn K (.ref C_Reader) "_read_word" = some (some (.ref f17))) (i17 : PySem.W.isFn K (.ref f17) = true) (l17 : K.lookup f17 = some ⟨oc17, od17, .func (PySem.W.fnOf "_read_word" "Reader._read_word" (defArgs s_Reader_read_word) (defBody s_Reader_read_word) (defScope s_Reader_read_word) .none kV17 dc17 pm17 an17 cd17 ct17), sl17⟩) (c17 : PySem.W.codeIn K cd17 "Reader._read_word" = true) (k17 : PySem.W.keepIn K (.ref f17) = true)
    {f18 : Addr} {od18 an18 : Option Addr} {sl18 : Array (Option Value)} {oc18 kV18 dc18 pm18 cd18 ct18 : Value} (a18 : PySem.W.findIn K (.ref C_Reader) "_chain" = some (some (.ref f18))) (i18 : PySem.W.isFn K (.ref f18) = true) (l18 : K.lookup f18 = some ⟨oc18, od18, .func (PySem.W.fnOf "_chain" "Reader._chain" (defArgs s_Reader_chain_p2) (defBody s_Reader_chain_p2) (defScope s_Reader_chain_p2) .none kV18 dc18 pm18 an18 cd18 ct18), sl18⟩) (c18 : PySem.W.codeIn K cd18 "Reader._chain" = true) (k18 : PySem.W.keepIn K (.ref f18) = true)
    {f19 : Addr} {od19 an19 : Option Addr} {sl19 : Array (Option Value)} {oc19 kV19 dc19 pm19 cd19 ct19 : Value} (a19 : PySem.W.findIn K (.ref C_Reader) "_part" = some (some (.ref f19))) (i19 : PySem.W.isFn K (.ref f19) = true) (l19 : K.lookup f19 = some ⟨oc19, od19, .func (PySem.W.fnOf "_part" "Reader._part" (defArgs s_Reader_part_p1) (defBody s_Reader_part_p1) (defScope s_Reader_part_p1) .none kV19 dc19 pm19 an19 cd19 ct19), sl19⟩) (c19 : PySem.W.codeIn K cd19 "Reader._part" = true) (k19 : PySem.W.keepIn K (.ref f19) = true)
    {f20 : Addr} {od20 an20 : Option Addr} {sl20 : Array (Option Value)} {oc20 kV20 dc20 pm20 cd20 ct20 : Value} (a20 : PySem.W.findIn K (.ref C_Reader) "_in_parentheses" = some (some (.ref f20))) (i20 : PySem.W.isFn K (.ref f20) = true) (l20 : K.lookup f20 = some ⟨oc20, od20, .func (PySem.W.fnOf "_in_parentheses" "Reader._in_parentheses" (defArgs s_Reader_in_parentheses_p2) (defBody s_Reader_in_parentheses_p2) (defScope s_Reader_in_parentheses_p2) .none kV20 dc20 pm20 an20 cd20 ct20), sl20⟩) (c20 : PySem.W.codeIn K cd20 "Reader._in_parentheses" = true) (k20 : PySem.W.keepIn K (.ref f20) = true)
    {f21 : Addr} {od21 an21 : Option Addr} {sl21 : Array (Option Value)} {oc21 kV21 dc21 pm21 cd21 ct21 : Value} (a21 : PySem.W.findIn K (.ref C_Reader) "_size" = some (some (.ref f21))) (i21 : PySem.W.isFn K (.ref f21) = true) (l21 : K.lookup f21 = some ⟨oc21, od21, .func (PySem.W.fnOf "_size" "Reader._size" (defArgs s_Reader_size) (defBody s_Reader_size) (defScope s_Reader_size) .none kV21 dc21 pm21 an21 cd21 ct21), sl21⟩) (c21 : PySem.W.codeIn K cd21 "Reader._size" = true) (k21 : PySem.W.keepIn K (.ref f21) = true)
    {f22 : Addr} {od22 an22 : Option Addr} {sl22 : Array (Option Value)} {oc22 kV22 dc22 pm22 cd22 ct22 : Value} (a22 : PySem.W.nsIn K mainGlobals "read_definition" = some (some (.ref f22))) (l22 : K.lookup f22 = some ⟨oc22, od22, .func (PySem.W.fnOf "read_definition" "read_definition" (defArgs s_read_definition) (defBody s_read_definition) (defScope s_read_definition) .none kV22 dc22 pm22 an22 cd22 ct22), sl22⟩) (c22 : PySem.W.codeIn K cd22 "read_definition" = true) (k22 : PySem.W.keepIn K (.ref f22) = true)
    {f23 : Addr} {od23 an23 : Option Addr} {sl23 : Array (Option Value)} {oc23 kV23 dc23 pm23 cd23 ct23 : Value} (a23 : PySem.W.nsIn K mainGlobals "read_rule" = some (some (.ref f23))) (l23 : K.lookup f23 = some ⟨oc23, od23, .func (PySem.W.fnOf "read_rule" "read_rule" (defArgs s_read_rule) (defBody s_read_rule) (defScope s_read_rule) .none kV23 dc23 pm23 an23 cd23 ct23), sl23⟩) (c23 : PySem.W.codeIn K cd23 "read_rule" = true) (k23 : PySem.W.keepIn K (.ref f23) = true)
    {f24 : Addr} {od24 an24 : Option Addr} {sl24 : Array (Option Value)} {oc24 kV24 dc24 pm24 cd24 ct24 : Value} (a24 : PySem.W.nsIn K mainGlobals "parse_deck" = some (some (.ref f24))) (l24 : K.lookup f24 = some ⟨oc24, od24, .func (PySem.W.fnOf "parse_deck" "parse_deck" (defArgs s_parse_deck) (defBody s_parse_deck) (defScope s_parse_deck) .none kV24 dc24 pm24 an24 cd24 ct24), sl24⟩) (c24 : PySem.W.codeIn K cd24 "parse_deck" = true) (k24 : PySem.W.keepIn K (.ref f24) = true)
    {f25 : Addr} {od25 an25 : Option Addr} {sl25 : Array (Option Value)} {oc25 kV25 dc25 pm25 cd25 ct25 : Value} (a25 : PySem.W.nsIn K mainGlobals "_law_cell" = some (some (.ref f25))) (l25 : K.lookup f25 = some ⟨oc25, od25, .func (PySem.W.fnOf "_law_cell" "_law_cell" (defArgs s_law_cell) (defBody s_law_cell) (defScope s_law_cell) .none kV25 dc25 pm25 an25 cd25 ct25), sl25⟩) (c25 : PySem.W.codeIn K cd25 "_law_cell" = true) (k25 : PySem.W.keepIn K (.ref f25) = true)
    {f26 : Addr} {od26 an26 : Option Addr} {sl26 : Array (Option Value)} {oc26 kV26 dc26 pm26 cd26 ct26 : Value} (a26 : PySem.W.nsIn K mainGlobals "_law_draws" = some (some (.ref f26))) (l26 : K.lookup f26 = some ⟨oc26, od26, .func (PySem.W.fnOf "_law_draws" "_law_draws" (defArgs s_law_draws) (defBody s_law_draws) (defScope s_law_draws) .none kV26 dc26 pm26 an26 cd26 ct26), sl26⟩) (c26 : PySem.W.codeIn K cd26 "_law_draws" = true) (k26 : PySem.W.keepIn K (.ref f26) = true)
    {f27 : Addr} {od27 an27 : Option Addr} {sl27 : Array (Option Value)} {oc27 kV27 dc27 pm27 cd27 ct27 : Value} (a27 : PySem.W.nsIn K mainGlobals "_law_is_text" = some (some (.ref f27))) (l27 : K.lookup f27 = some ⟨oc27, od27, .func (PySem.W.fnOf "_law_is_text" "_law_is_text" (defArgs s_law_is_text) (defBody s_law_is_text) (defScope s_law_is_text) .none kV27 dc27 pm27 an27 cd27 ct27), sl27⟩) (c27 : PySem.W.codeIn K cd27 "_law_is_text" = true) (k27 : PySem.W.keepIn K (.ref f27) = true)
    {f28 : Addr} {od28 an28 : Option Addr} {sl28 : Array (Option Value)} {oc28 kV28 dc28 pm28 cd28 ct28 : Value} (a28 : PySem.W.nsIn K mainGlobals "_law_layers" = some (some (.ref f28))) (l28 : K.lookup f28 = some ⟨oc28, od28, .func (PySem.W.fnOf "_law_layers" "_law_layers" (defArgs s_law_layers) (defBody s_law_layers) (defScope s_law_layers) .none kV28 dc28 pm28 an28 cd28 ct28), sl28⟩) (c28 : PySem.W.codeIn K cd28 "_law_layers" = true) (k28 : PySem.W.keepIn K (.ref f28) = true)
    {f29 : Addr} {od29 an29 : Option Addr} {sl29 : Array (Option Value)} {oc29 kV29 dc29 pm29 cd29 ct29 : Value} (a29 : PySem.W.nsIn K mainGlobals "_law_name" = some (some (.ref f29))) (l29 : K.lookup f29 = some ⟨oc29, od29, .func (PySem.W.fnOf "_law_name" "_law_name" (defArgs s_law_name) (defBody s_law_name) (defScope s_law_name) .none kV29 dc29 pm29 an29 cd29 ct29), sl29⟩) (c29 : PySem.W.codeIn K cd29 "_law_name" = true) (k29 : PySem.W.keepIn K (.ref f29) = true)
    {f30 : Addr} {od30 an30 : Option Addr} {sl30 : Array (Option Value)} {oc30 kV30 dc30 pm30 cd30 ct30 : Value} (a30 : PySem.W.nsIn K mainGlobals "_law_like" = some (some (.ref f30))) (l30 : K.lookup f30 = some ⟨oc30, od30, .func (PySem.W.fnOf "_law_like" "_law_like" (defArgs s_law_like_int) (defBody s_law_like_int) (defScope s_law_like_int) .none kV30 dc30 pm30 an30 cd30 ct30), sl30⟩) (c30 : PySem.W.codeIn K cd30 "_law_like" = true) (k30 : PySem.W.keepIn K (.ref f30) = true)
    {f31 : Addr} {od31 an31 : Option Addr} {sl31 : Array (Option Value)} {oc31 kV31 dc31 pm31 cd31 ct31 : Value} (a31 : PySem.W.nsIn K mainGlobals "_law_qexpression" = some (some (.ref f31))) (l31 : K.lookup f31 = some ⟨oc31, od31, .func (PySem.W.fnOf "_law_qexpression" "_law_qexpression" (defArgs s_law_qexpression_d0) (defBody s_law_qexpression_d0) (defScope s_law_qexpression_d0) .none kV31 dc31 pm31 an31 cd31 ct31), sl31⟩) (c31 : PySem.W.codeIn K cd31 "_law_qexpression" = true) (k31 : PySem.W.keepIn K (.ref f31) = true)
    {f32 : Addr} {od32 an32 : Option Addr} {sl32 : Array (Option Value)} {oc32 kV32 dc32 pm32 cd32 ct32 : Value} (a32 : PySem.W.nsIn K mainGlobals "_law_qdefinitions" = some (some (.ref f32))) (l32 : K.lookup f32 = some ⟨oc32, od32, .func (PySem.W.fnOf "_law_qdefinitions" "_law_qdefinitions" (defArgs s_law_qdefinitions) (defBody s_law_qdefinitions) (defScope s_law_qdefinitions) .none kV32 dc32 pm32 an32 cd32 ct32), sl32⟩) (c32 : PySem.W.codeIn K cd32 "_law_qdefinitions" = true) (k32 : PySem.W.keepIn K (.ref f32) = true)
    {f33 : Addr} {od33 an33 : Option Addr} {sl33 : Array (Option Value)} {oc33 kV33 dc33 pm33 cd33 ct33 : Value} (a33 : PySem.W.nsIn K mainGlobals "_law_qrule" = some (some (.ref f33))) (l33 : K.lookup f33 = some ⟨oc33, od33, .func (PySem.W.fnOf "_law_qrule" "_law_qrule" (defArgs s_law_qrule) (defBody s_law_qrule) (defScope s_law_qrule) .none kV33 dc33 pm33 an33 cd33 ct33), sl33⟩) (c33 : PySem.W.codeIn K cd33 "_law_qrule" = true) (k33 : PySem.W.keepIn K (.ref f33) = true)
    {f34 : Addr} {od34 an34 : Option Addr} {sl34 : Array (Option Value)} {oc34 kV34 dc34 pm34 cd34 ct34 : Value} (a34 : PySem.W.nsIn K mainGlobals "_law_qrules" = some (some (.ref f34))) (l34 : K.lookup f34 = some ⟨oc34, od34, .func (PySem.W.fnOf "_law_qrules" "_law_qrules" (defArgs s_law_qrules) (defBody s_law_qrules) (defScope s_law_qrules) .none kV34 dc34 pm34 an34 cd34 ct34), sl34⟩) (c34 : PySem.W.codeIn K cd34 "_law_qrules" = true) (k34 : PySem.W.keepIn K (.ref f34) = true)
    {f35 : Addr} {od35 an35 : Option Addr} {sl35 : Array (Option Value)} {oc35 kV35 dc35 pm35 cd35 ct35 : Value} (a35 : PySem.W.nsIn K mainGlobals "_law_qwords" = some (some (.ref f35))) (l35 : K.lookup f35 = some ⟨oc35, od35, .func (PySem.W.fnOf "_law_qwords" "_law_qwords" (defArgs s_law_qwords_q1) (defBody s_law_qwords_q1) (defScope s_law_qwords_q1) .none kV35 dc35 pm35 an35 cd35 ct35), sl35⟩) (c35 : PySem.W.codeIn K cd35 "_law_qwords" = true) (k35 : PySem.W.keepIn K (.ref f35) = true)
    {f36 : Addr} {od36 an36 : Option Addr} {sl36 : Array (Option Value)} {oc36 kV36 dc36 pm36 cd36 ct36 : Value} (a36 : PySem.W.nsIn K mainGlobals "_law_qdeck_lines" = some (some (.ref f36))) (l36 : K.lookup f36 = some ⟨oc36, od36, .func (PySem.W.fnOf "_law_qdeck_lines" "_law_qdeck_lines" (defArgs s_law_qdeck_lines) (defBody s_law_qdeck_lines) (defScope s_law_qdeck_lines) .none kV36 dc36 pm36 an36 cd36 ct36), sl36⟩) (c36 : PySem.W.codeIn K cd36 "_law_qdeck_lines" = true) (k36 : PySem.W.keepIn K (.ref f36) = true)
    {f37 : Addr} {od37 an37 : Option Addr} {sl37 : Array (Option Value)} {oc37 kV37 dc37 pm37 cd37 ct37 : Value} (a37 : PySem.W.nsIn K mainGlobals "law" = some (some (.ref f37))) (l37 : K.lookup f37 = some ⟨oc37, od37, .func (PySem.W.fnOf "law" "law" (defArgs s_law) (defBody s_law) (defScope s_law) .none kV37 dc37 pm37 an37 cd37 ct37), sl37⟩) (c37 : PySem.W.codeIn K cd37 "law" = true) (k37 : PySem.W.keepIn K (.ref f37) = true)
    (z_all : PySem.W.nsIn K mainGlobals "all" = some none)
    (z_bool : PySem.W.nsIn K mainGlobals "bool" = some none)
    (z_enumerate : PySem.W.nsIn K mainGlobals "enumerate" = some none)
    (z_int : PySem.W.nsIn K mainGlobals "int" = some none)
    (z_isinstance : PySem.W.nsIn K mainGlobals "isinstance" = some none)
    (z_len : PySem.W.nsIn K mainGlobals "len" = some none)
    (z_list : PySem.W.nsIn K mainGlobals "list" = some none)
    (z_max : PySem.W.nsIn K mainGlobals "max" = some none)
    (z_range : PySem.W.nsIn K mainGlobals "range" = some none)
    (z_set : PySem.W.nsIn K mainGlobals "set" = some none)
    (z_str : PySem.W.nsIn K mainGlobals "str" = some none)
    (z_tuple : PySem.W.nsIn K mainGlobals "tuple" = some none)
    {u_FROM_ZERO : Value} (y_FROM_ZERO : PySem.W.nsIn K mainGlobals "FROM_ZERO" = some (some u_FROM_ZERO)) (w_FROM_ZERO : KD K (.tup [.str "apart", .str "cover"]) u_FROM_ZERO)
    {u_GREATEST_DEPTH : Value} (y_GREATEST_DEPTH : PySem.W.nsIn K mainGlobals "GREATEST_DEPTH" = some (some u_GREATEST_DEPTH)) (w_GREATEST_DEPTH : KD K (.int 12) u_GREATEST_DEPTH)
    {u_GREATEST_NUMBER : Value} (y_GREATEST_NUMBER : PySem.W.nsIn K mainGlobals "GREATEST_NUMBER" = some (some u_GREATEST_NUMBER)) (w_GREATEST_NUMBER : KD K (.int 1000) u_GREATEST_NUMBER)
    {u_LAYERS : Value} (y_LAYERS : PySem.W.nsIn K mainGlobals "LAYERS" = some (some u_LAYERS)) (w_LAYERS : KD K (.tup [.str "well", .str "active", .str "poly", .str "contact", .str "metal", .str "via", .str "top"]) u_LAYERS)
    {u_MOST_CHARACTERS : Value} (y_MOST_CHARACTERS : PySem.W.nsIn K mainGlobals "MOST_CHARACTERS" = some (some u_MOST_CHARACTERS)) (w_MOST_CHARACTERS : KD K (.int 12) u_MOST_CHARACTERS)
    {u_MOST_DEFINITIONS : Value} (y_MOST_DEFINITIONS : PySem.W.nsIn K mainGlobals "MOST_DEFINITIONS" = some (some u_MOST_DEFINITIONS)) (w_MOST_DEFINITIONS : KD K (.int 40) u_MOST_DEFINITIONS)
    {u_MOST_DIGITS : Value} (y_MOST_DIGITS : PySem.W.nsIn K mainGlobals "MOST_DIGITS" = some (some u_MOST_DIGITS)) (w_MOST_DIGITS : KD K (.int 30) u_MOST_DIGITS)
    {u_MOST_RULES : Value} (y_MOST_RULES : PySem.W.nsIn K mainGlobals "MOST_RULES" = some (some u_MOST_RULES)) (w_MOST_RULES : KD K (.int 40) u_MOST_RULES)
    {u_PAIRING : Value} (y_PAIRING : PySem.W.nsIn K mainGlobals "PAIRING" = some (some u_PAIRING)) (w_PAIRING : KD K (.tup [.str "and", .str "or", .str "minus", .str "odd"]) u_PAIRING)
    {u_SIZING : Value} (y_SIZING : PySem.W.nsIn K mainGlobals "SIZING" = some (some u_SIZING)) (w_SIZING : KD K (.tup [.str "grow", .str "shrink", .str "open"]) u_SIZING)
    {u_WORDS : Value} (y_WORDS : PySem.W.nsIn K mainGlobals "WORDS" = some (some u_WORDS)) (w_WORDS : KD K (.tup [.str "and", .str "or", .str "minus", .str "odd", .str "grow", .str "shrink", .str "open", .str "layer", .str "rule"]) u_WORDS)
    {p_LAYER_COUNTS : Addr} {es_LAYER_COUNTS : Array DictEntry} {n_LAYER_COUNTS : Nat} (a_LAYER_COUNTS : PySem.W.nsIn K mainGlobals "LAYER_COUNTS" = some (some (.ref p_LAYER_COUNTS))) (l_LAYER_COUNTS : K.lookup p_LAYER_COUNTS = some ⟨.type "dict", none, .dict es_LAYER_COUNTS n_LAYER_COUNTS, #[]⟩) (q_LAYER_COUNTS : PySem.W.KeysLit w.params es_LAYER_COUNTS.toList)
    (lo_LAYER_COUNTS : (p_LAYER_COUNTS == sysModules) = false)
    {u0_LAYER_COUNTS : Value} (v0_LAYER_COUNTS : PySem.W.nsIn K p_LAYER_COUNTS "width" = some (some u0_LAYER_COUNTS)) (d0_LAYER_COUNTS : KD K (.int 1) u0_LAYER_COUNTS)
    {u1_LAYER_COUNTS : Value} (v1_LAYER_COUNTS : PySem.W.nsIn K p_LAYER_COUNTS "space" = some (some u1_LAYER_COUNTS)) (d1_LAYER_COUNTS : KD K (.int 1) u1_LAYER_COUNTS)
    {u2_LAYER_COUNTS : Value} (v2_LAYER_COUNTS : PySem.W.nsIn K p_LAYER_COUNTS "apart" = some (some u2_LAYER_COUNTS)) (d2_LAYER_COUNTS : KD K (.int 2) u2_LAYER_COUNTS)
    {u3_LAYER_COUNTS : Value} (v3_LAYER_COUNTS : PySem.W.nsIn K p_LAYER_COUNTS "cover" = some (some u3_LAYER_COUNTS)) (d3_LAYER_COUNTS : KD K (.int 2) u3_LAYER_COUNTS)
    {u4_LAYER_COUNTS : Value} (v4_LAYER_COUNTS : PySem.W.nsIn K p_LAYER_COUNTS "area" = some (some u4_LAYER_COUNTS)) (d4_LAYER_COUNTS : KD K (.int 1) u4_LAYER_COUNTS)
    {u5_LAYER_COUNTS : Value} (v5_LAYER_COUNTS : PySem.W.nsIn K p_LAYER_COUNTS "size" = some (some u5_LAYER_COUNTS)) (d5_LAYER_COUNTS : KD K (.int 1) u5_LAYER_COUNTS)
    {u6_LAYER_COUNTS : Value} (v6_LAYER_COUNTS : PySem.W.nsIn K p_LAYER_COUNTS "never" = some (some u6_LAYER_COUNTS)) (d6_LAYER_COUNTS : KD K (.int 2) u6_LAYER_COUNTS)
    {p_NUMBER_COUNTS : Addr} {es_NUMBER_COUNTS : Array DictEntry} {n_NUMBER_COUNTS : Nat} (a_NUMBER_COUNTS : PySem.W.nsIn K mainGlobals "NUMBER_COUNTS" = some (some (.ref p_NUMBER_COUNTS))) (l_NUMBER_COUNTS : K.lookup p_NUMBER_COUNTS = some ⟨.type "dict", none, .dict es_NUMBER_COUNTS n_NUMBER_COUNTS, #[]⟩) (q_NUMBER_COUNTS : PySem.W.KeysLit w.params es_NUMBER_COUNTS.toList)
    {u0_NUMBER_COUNTS : Value} (v0_NUMBER_COUNTS : PySem.W.nsIn K p_NUMBER_COUNTS "width" = some (some u0_NUMBER_COUNTS)) (d0_NUMBER_COUNTS : KD K (.int 1) u0_NUMBER_COUNTS)
    {u1_NUMBER_COUNTS : Value} (v1_NUMBER_COUNTS : PySem.W.nsIn K p_NUMBER_COUNTS "space" = some (some u1_NUMBER_COUNTS)) (d1_NUMBER_COUNTS : KD K (.int 1) u1_NUMBER_COUNTS)
    {u2_NUMBER_COUNTS : Value} (v2_NUMBER_COUNTS : PySem.W.nsIn K p_NUMBER_COUNTS "apart" = some (some u2_NUMBER_COUNTS)) (d2_NUMBER_COUNTS : KD K (.int 1) u2_NUMBER_COUNTS)
    {u3_NUMBER_COUNTS : Value} (v3_NUMBER_COUNTS : PySem.W.nsIn K p_NUMBER_COUNTS "cover" = some (some u3_NUMBER_COUNTS)) (d3_NUMBER_COUNTS : KD K (.int 1) u3_NUMBER_COUNTS)
    {u4_NUMBER_COUNTS : Value} (v4_NUMBER_COUNTS : PySem.W.nsIn K p_NUMBER_COUNTS "area" = some (some u4_NUMBER_COUNTS)) (d4_NUMBER_COUNTS : KD K (.int 1) u4_NUMBER_COUNTS)
    {u5_NUMBER_COUNTS : Value} (v5_NUMBER_COUNTS : PySem.W.nsIn K p_NUMBER_COUNTS "size" = some (some u5_NUMBER_COUNTS)) (d5_NUMBER_COUNTS : KD K (.int 2) u5_NUMBER_COUNTS)
    {u6_NUMBER_COUNTS : Value} (v6_NUMBER_COUNTS : PySem.W.nsIn K p_NUMBER_COUNTS "never" = some (some u6_NUMBER_COUNTS)) (d6_NUMBER_COUNTS : KD K (.int 0) u6_NUMBER_COUNTS)
    : ∃ fd : FuncData, (∀ (s : Shared) (v : Value), BindsTo s fd ⟨[v], []⟩ [("script", v)]) ∧ ∀ base : Heap, K.In base → base.Ns mainGlobals mg → FnOk l.prog w K mg base CX0 21 fa fd ["script"] (spR K RLaw) := by
  have e := hfa.symm.trans (PySem.W.mg_of X G a37)
  cases e
  have B : Bt mg := ⟨PySem.W.mg_none_of X G z_all, PySem.W.mg_none_of X G z_bool, PySem.W.mg_none_of X G z_enumerate, PySem.W.mg_none_of X G z_int, PySem.W.mg_none_of X G z_isinstance, PySem.W.mg_none_of X G z_len, PySem.W.mg_none_of X G z_list, PySem.W.mg_none_of X G z_max, PySem.W.mg_none_of X G z_range, PySem.W.mg_none_of X G z_set, PySem.W.mg_none_of X G z_str, PySem.W.mg_none_of X G z_tuple⟩
  have KC : Kt K mg := ⟨⟨⟨u_FROM_ZERO, PySem.W.mg_of X G y_FROM_ZERO, w_FROM_ZERO⟩⟩, ⟨⟨u_GREATEST_DEPTH, PySem.W.mg_of X G y_GREATEST_DEPTH, w_GREATEST_DEPTH⟩⟩, ⟨⟨u_GREATEST_NUMBER, PySem.W.mg_of X G y_GREATEST_NUMBER, w_GREATEST_NUMBER⟩⟩, ⟨⟨u_LAYERS, PySem.W.mg_of X G y_LAYERS, w_LAYERS⟩⟩, ⟨⟨u_MOST_CHARACTERS, PySem.W.mg_of X G y_MOST_CHARACTERS, w_MOST_CHARACTERS⟩⟩, ⟨⟨u_MOST_DEFINITIONS, PySem.W.mg_of X G y_MOST_DEFINITIONS, w_MOST_DEFINITIONS⟩⟩, ⟨⟨u_MOST_DIGITS, PySem.W.mg_of X G y_MOST_DIGITS, w_MOST_DIGITS⟩⟩, ⟨⟨u_MOST_RULES, PySem.W.mg_of X G y_MOST_RULES, w_MOST_RULES⟩⟩, ⟨⟨u_PAIRING, PySem.W.mg_of X G y_PAIRING, w_PAIRING⟩⟩, ⟨⟨u_SIZING, PySem.W.mg_of X G y_SIZING, w_SIZING⟩⟩, ⟨⟨u_WORDS, PySem.W.mg_of X G y_WORDS, w_WORDS⟩⟩⟩
  have KL : Lt K mg := ⟨⟨⟨C_Deck, aC_Deck, PySem.W.mg_of X G aC_Deck, ⟨⟨pg_Deck, hd_Deck, po_Deck, sa_Deck⟩, ha_Deck, hn_Deck, htk_Deck, hm_Deck, kit_self⟩, kc_Deck, (List.forall_mem_cons.mpr ⟨na0_Deck, (List.forall_mem_cons.mpr ⟨na1_Deck, fun _ h => absurd h (by simp)⟩)⟩)⟩⟩, ⟨⟨C_Reader, aC_Reader, PySem.W.mg_of X G aC_Reader, ⟨⟨pg_Reader, hd_Reader, po_Reader, sa_Reader⟩, ha_Reader, hn_Reader, htk_Reader, hm_Reader, kit_self⟩, kc_Reader, (List.forall_mem_cons.mpr ⟨na0_Reader, (List.forall_mem_cons.mpr ⟨na1_Reader, (List.forall_mem_cons.mpr ⟨na2_Reader, (List.forall_mem_cons.mpr ⟨na3_Reader, fun _ h => absurd h (by simp)⟩)⟩)⟩)⟩)⟩⟩⟩
  have WD : Zdt K w mg := ⟨⟨(List.forall_mem_cons.mpr ⟨kdl_mk (PySem.W.mg_of X G a_LAYER_COUNTS) l_LAYER_COUNTS q_LAYER_COUNTS v0_LAYER_COUNTS d0_LAYER_COUNTS, (List.forall_mem_cons.mpr ⟨kdl_mk (PySem.W.mg_of X G a_LAYER_COUNTS) l_LAYER_COUNTS q_LAYER_COUNTS v1_LAYER_COUNTS d1_LAYER_COUNTS, (List.forall_mem_cons.mpr ⟨kdl_mk (PySem.W.mg_of X G a_LAYER_COUNTS) l_LAYER_COUNTS q_LAYER_COUNTS v2_LAYER_COUNTS d2_LAYER_COUNTS, (List.forall_mem_cons.mpr ⟨kdl_mk (PySem.W.mg_of X G a_LAYER_COUNTS) l_LAYER_COUNTS q_LAYER_COUNTS v3_LAYER_COUNTS d3_LAYER_COUNTS, (List.forall_mem_cons.mpr ⟨kdl_mk (PySem.W.mg_of X G a_LAYER_COUNTS) l_LAYER_COUNTS q_LAYER_COUNTS v4_LAYER_COUNTS d4_LAYER_COUNTS, (List.forall_mem_cons.mpr ⟨kdl_mk (PySem.W.mg_of X G a_LAYER_COUNTS) l_LAYER_COUNTS q_LAYER_COUNTS v5_LAYER_COUNTS d5_LAYER_COUNTS, (List.forall_mem_cons.mpr ⟨kdl_mk (PySem.W.mg_of X G a_LAYER_COUNTS) l_LAYER_COUNTS q_LAYER_COUNTS v6_LAYER_COUNTS d6_LAYER_COUNTS, fun _ h => absurd h (by simp)⟩)⟩)⟩)⟩)⟩)⟩)⟩)⟩, (List.forall_mem_cons.mpr ⟨kdi_mk (PySem.W.mg_of X G a_LAYER_COUNTS) l_LAYER_COUNTS q_LAYER_COUNTS v0_LAYER_COUNTS lo_LAYER_COUNTS, (List.forall_mem_cons.mpr ⟨kdi_mk (PySem.W.mg_of X G a_LAYER_COUNTS) l_LAYER_COUNTS q_LAYER_COUNTS v1_LAYER_COUNTS lo_LAYER_COUNTS, (List.forall_mem_cons.mpr ⟨kdi_mk (PySem.W.mg_of X G a_LAYER_COUNTS) l_LAYER_COUNTS q_LAYER_COUNTS v2_LAYER_COUNTS lo_LAYER_COUNTS, (List.forall_mem_cons.mpr ⟨kdi_mk (PySem.W.mg_of X G a_LAYER_COUNTS) l_LAYER_COUNTS q_LAYER_COUNTS v3_LAYER_COUNTS lo_LAYER_COUNTS, (List.forall_mem_cons.mpr ⟨kdi_mk (PySem.W.mg_of X G a_LAYER_COUNTS) l_LAYER_COUNTS q_LAYER_COUNTS v4_LAYER_COUNTS lo_LAYER_COUNTS, (List.forall_mem_cons.mpr ⟨kdi_mk (PySem.W.mg_of X G a_LAYER_COUNTS) l_LAYER_COUNTS q_LAYER_COUNTS v5_LAYER_COUNTS lo_LAYER_COUNTS, (List.forall_mem_cons.mpr ⟨kdi_mk (PySem.W.mg_of X G a_LAYER_COUNTS) l_LAYER_COUNTS q_LAYER_COUNTS v6_LAYER_COUNTS lo_LAYER_COUNTS, fun _ h => absurd h (by simp)⟩)⟩)⟩)⟩)⟩)⟩)⟩), ⟨(List.forall_mem_cons.mpr ⟨kdl_mk (PySem.W.mg_of X G a_NUMBER_COUNTS) l_NUMBER_COUNTS q_NUMBER_COUNTS v0_NUMBER_COUNTS d0_NUMBER_COUNTS, (List.forall_mem_cons.mpr ⟨kdl_mk (PySem.W.mg_of X G a_NUMBER_COUNTS) l_NUMBER_COUNTS q_NUMBER_COUNTS v1_NUMBER_COUNTS d1_NUMBER_COUNTS, (List.forall_mem_cons.mpr ⟨kdl_mk (PySem.W.mg_of X G a_NUMBER_COUNTS) l_NUMBER_COUNTS q_NUMBER_COUNTS v2_NUMBER_COUNTS d2_NUMBER_COUNTS, (List.forall_mem_cons.mpr ⟨kdl_mk (PySem.W.mg_of X G a_NUMBER_COUNTS) l_NUMBER_COUNTS q_NUMBER_COUNTS v3_NUMBER_COUNTS d3_NUMBER_COUNTS, (List.forall_mem_cons.mpr ⟨kdl_mk (PySem.W.mg_of X G a_NUMBER_COUNTS) l_NUMBER_COUNTS q_NUMBER_COUNTS v4_NUMBER_COUNTS d4_NUMBER_COUNTS, (List.forall_mem_cons.mpr ⟨kdl_mk (PySem.W.mg_of X G a_NUMBER_COUNTS) l_NUMBER_COUNTS q_NUMBER_COUNTS v5_NUMBER_COUNTS d5_NUMBER_COUNTS, (List.forall_mem_cons.mpr ⟨kdl_mk (PySem.W.mg_of X G a_NUMBER_COUNTS) l_NUMBER_COUNTS q_NUMBER_COUNTS v6_NUMBER_COUNTS d6_NUMBER_COUNTS, fun _ h => absurd h (by simp)⟩)⟩)⟩)⟩)⟩)⟩)⟩)⟩⟩
  have F0 := fun_mk (st := s_is_name) l0 c0 k0
  have b0 := F0.binds (ps := ["name"]) fun _ _ _ _ _ _ us hl => match us, hl with | [_], _ => rfl
  have F1 := fun_mk (st := s_rule_layers) l1 c1 k1
  have b1 := F1.binds (ps := ["rule"]) fun _ _ _ _ _ _ us hl => match us, hl with | [_], _ => rfl
  have F2 := fun_mk (st := s_rule_numbers) l2 c2 k2
  have b2 := F2.binds (ps := ["rule"]) fun _ _ _ _ _ _ us hl => match us, hl with | [_], _ => rfl
  have F3 := fun_mk (st := s_is_rule_over) l3 c3 k3
  have b3 := F3.binds (ps := ["layers", "rule"]) fun _ _ _ _ _ _ us hl => match us, hl with | [_, _], _ => rfl
  have F4 := fun_mk (st := s_parts_of) l4 c4 k4
  have b4 := F4.binds (ps := ["expression"]) fun _ _ _ _ _ _ us hl => match us, hl with | [_], _ => rfl
  have F5 := fun_mk (st := s_is_size) l5 c5 k5
  have b5 := F5.binds (ps := ["operation", "n"]) fun _ _ _ _ _ _ us hl => match us, hl with | [_, _], _ => rfl
  have F6 := fun_mk (st := s_is_expression_over_z0) l6 c6 k6
  have b6 := F6.binds (ps := ["layers", "expression", "depth"]) fun _ _ _ _ _ _ us hl => match us, hl with | [_, _, _], _ => rfl
  have F7 := fun_mk (st := s_is_new_layer) l7 c7 k7
  have b7 := F7.binds (ps := ["layers", "name"]) fun _ _ _ _ _ _ us hl => match us, hl with | [_, _], _ => rfl
  have F8 := fun_mk (st := s_Deck_init) l8 c8 k8
  have b8 := F8.binds (ps := ["self", "definitions", "rules"]) fun _ _ _ _ _ _ us hl => match us, hl with | [_, _, _], _ => rfl
  have F9 := fun_mk (st := s_is_integer) l9 c9 k9
  have b9 := F9.binds (ps := ["word"]) fun _ _ _ _ _ _ us hl => match us, hl with | [_], _ => rfl
  have F10 := fun_mk (st := s_read_integers) l10 c10 k10
  have b10 := F10.binds (ps := ["words"]) fun _ _ _ _ _ _ us hl => match us, hl with | [_], _ => rfl
  have F11 := fun_mk (st := s_expression_words_e1) l11 c11 k11
  have b11 := F11.binds (ps := ["expression"]) fun _ _ _ _ _ _ us hl => match us, hl with | [_], _ => rfl
  have F12 := fun_mk (st := s_part_words_e1) l12 c12 k12
  have b12 := F12.binds (ps := ["expression"]) fun _ _ _ _ _ _ us hl => match us, hl with | [_], _ => rfl
  have F13 := fun_mk (st := s_format_deck) l13 c13 k13
  have b13 := F13.binds (ps := ["deck"]) fun _ _ _ _ _ _ us hl => match us, hl with | [_], _ => rfl
  have F14 := fun_mk (st := s_Reader_init) l14 c14 k14
  have b14 := F14.binds (ps := ["self", "words", "layers", "line"]) fun _ _ _ _ _ _ us hl => match us, hl with | [_, _, _, _], _ => rfl
  have F15 := fun_mk (st := s_Reader_read_all) l15 c15 k15
  have b15 := F15.binds (ps := ["self"]) fun _ _ _ _ _ _ us hl => match us, hl with | [_], _ => rfl
  have F16 := fun_mk (st := s_Reader_next_word) l16 c16 k16
  have b16 := F16.binds (ps := ["self"]) fun _ _ _ _ _ _ us hl => match us, hl with | [_], _ => rfl
  have F17 := fun_mk (st := s_Reader_read_word) l17 c17 k17
  have b17 := F17.binds (ps := ["self"]) fun _ _ _ _ _ _ us hl => match us, hl with | [_], _ => rfl
  have F18 := fun_mk (st := s_Reader_chain_p2) l18 c18 k18
  have b18 := F18.binds (ps := ["self", "room"]) fun _ _ _ _ _ _ us hl => match us, hl with | [_, _], _ => rfl
  have F19 := fun_mk (st := s_Reader_part_p1) l19 c19 k19
  have b19 := F19.binds (ps := ["self", "room"]) fun _ _ _ _ _ _ us hl => match us, hl with | [_, _], _ => rfl
  have F20 := fun_mk (st := s_Reader_in_parentheses_p2) l20 c20 k20
  have b20 := F20.binds (ps := ["self", "room"]) fun _ _ _ _ _ _ us hl => match us, hl with | [_, _], _ => rfl
  have F21 := fun_mk (st := s_Reader_size) l21 c21 k21
  have b21 := F21.binds (ps := ["self", "operation"]) fun _ _ _ _ _ _ us hl => match us, hl with | [_, _], _ => rfl
  have F22 := fun_mk (st := s_read_definition) l22 c22 k22
  have b22 := F22.binds (ps := ["words", "layers", "line"]) fun _ _ _ _ _ _ us hl => match us, hl with | [_, _, _], _ => rfl
  have F23 := fun_mk (st := s_read_rule) l23 c23 k23
  have b23 := F23.binds (ps := ["words", "layers", "line"]) fun _ _ _ _ _ _ us hl => match us, hl with | [_, _, _], _ => rfl
  have F24 := fun_mk (st := s_parse_deck) l24 c24 k24
  have b24 := F24.binds (ps := ["text"]) fun _ _ _ _ _ _ us hl => match us, hl with | [_], _ => rfl
  have F25 := fun_mk (st := s_law_cell) l25 c25 k25
  have b25 := F25.binds (ps := ["script", "k"]) fun _ _ _ _ _ _ us hl => match us, hl with | [_, _], _ => rfl
  have F26 := fun_mk (st := s_law_draws) l26 c26 k26
  have b26 := F26.binds (ps := ["cell", "count"]) fun _ _ _ _ _ _ us hl => match us, hl with | [_, _], _ => rfl
  have F27 := fun_mk (st := s_law_is_text) l27 c27 k27
  have b27 := F27.binds (ps := ["x", "due"]) fun _ _ _ _ _ _ us hl => match us, hl with | [_, _], _ => rfl
  have F28 := fun_mk (st := s_law_layers) l28 c28 k28
  have b28 := F28.binds (ps := []) fun _ _ _ _ _ _ us hl => match us, hl with | [], _ => rfl
  have F29 := fun_mk (st := s_law_name) l29 c29 k29
  have b29 := F29.binds (ps := ["draw"]) fun _ _ _ _ _ _ us hl => match us, hl with | [_], _ => rfl
  have F30 := fun_mk (st := s_law_like_int) l30 c30 k30
  have b30 := F30.binds (ps := ["actual", "due"]) fun _ _ _ _ _ _ us hl => match us, hl with | [_, _], _ => rfl
  have F31 := fun_mk (st := s_law_qexpression_d0) l31 c31 k31
  have b31 := F31.binds (ps := ["draws", "at", "depth", "names"]) fun _ _ _ _ _ _ us hl => match us, hl with | [_, _, _, _], _ => rfl
  have F32 := fun_mk (st := s_law_qdefinitions) l32 c32 k32
  have b32 := F32.binds (ps := ["cell", "most", "depth"]) fun _ _ _ _ _ _ us hl => match us, hl with | [_, _, _], _ => rfl
  have F33 := fun_mk (st := s_law_qrule) l33 c33 k33
  have b33 := F33.binds (ps := ["draw", "more", "names"]) fun _ _ _ _ _ _ us hl => match us, hl with | [_, _, _], _ => rfl
  have F34 := fun_mk (st := s_law_qrules) l34 c34 k34
  have b34 := F34.binds (ps := ["cell", "most", "names"]) fun _ _ _ _ _ _ us hl => match us, hl with | [_, _, _], _ => rfl
  have F35 := fun_mk (st := s_law_qwords_q1) l35 c35 k35
  have b35 := F35.binds (ps := ["expression"]) fun _ _ _ _ _ _ us hl => match us, hl with | [_], _ => rfl
  have F36 := fun_mk (st := s_law_qdeck_lines) l36 c36 k36
  have b36 := F36.binds (ps := ["definitions", "rules"]) fun _ _ _ _ _ _ us hl => match us, hl with | [_, _], _ => rfl
  have F37 := fun_mk (st := s_law) l37 c37 k37
  refine ⟨PySem.W.fnOf "law" "law" (defArgs s_law) (defBody s_law) (defScope s_law) .none kV37 dc37 pm37 an37 cd37 ct37, fun s v => .of_eq rfl, fun base _ _ => ?_⟩
  have G_is_name : Fn l.prog w K mg base "is_name" 1 R_is_name := fn_wrap (PySem.W.mg_of X G a0) b0 F0.kp (ok_is_name F0 B KC KL WD )
  have G_rule_layers : Fn l.prog w K mg base "rule_layers" 1 R_rule_layers := fn_wrap (PySem.W.mg_of X G a1) b1 F1.kp (ok_rule_layers F1 B KC KL WD )
  have G_rule_numbers : Fn l.prog w K mg base "rule_numbers" 1 R_rule_numbers := fn_wrap (PySem.W.mg_of X G a2) b2 F2.kp (ok_rule_numbers F2 B KC KL WD )
  have G_parts_of : Fn l.prog w K mg base "parts_of" 1 R_parts_of := fn_wrap (PySem.W.mg_of X G a4) b4 F4.kp (ok_parts_of F4 B KC KL WD )
  have G_is_size : Fn l.prog w K mg base "is_size" 1 R_is_size := fn_wrap (PySem.W.mg_of X G a5) b5 F5.kp (ok_is_size F5 B KC KL WD )
  have G_is_integer : Fn l.prog w K mg base "is_integer" 1 R_is_integer := fn_wrap (PySem.W.mg_of X G a9) b9 F9.kp (ok_is_integer F9 B KC KL WD )
  have G_Reader_init : FnIL l.prog w K mg base "Reader" 1 R_Reader_init := ⟨⟨C_Reader, f14, _, _, aC_Reader, PySem.W.mg_of X G aC_Reader, ⟨mk_Reader, a14, i14, kc_Reader⟩, ok_Reader_init F14 B KC KL WD , b14⟩⟩
  have G_Reader_next_word : FnM l.prog w K mg base "Reader" "_next_word" 1 R_Reader_next_word := ⟨⟨C_Reader, f16, _, _, aC_Reader, ⟨pg_Reader, hd_Reader, po_Reader, sa_Reader⟩, ⟨a16, i16, k16⟩, ok_Reader_next_word F16 B KC KL WD , b16⟩⟩
  have G_law_cell : Fn l.prog w K mg base "_law_cell" 1 R_law_cell := fn_wrap (PySem.W.mg_of X G a25) b25 F25.kp (ok_law_cell F25 B KC KL WD )
  have G_law_draws : Fn l.prog w K mg base "_law_draws" 1 R_law_draws := fn_wrap (PySem.W.mg_of X G a26) b26 F26.kp (ok_law_draws F26 B KC KL WD )
  have G_law_is_text : Fn l.prog w K mg base "_law_is_text" 1 R_law_is_text := fn_wrap (PySem.W.mg_of X G a27) b27 F27.kp (ok_law_is_text F27 B KC KL WD )
  have G_law_layers : Fn l.prog w K mg base "_law_layers" 1 R_law_layers := fn_wrap (PySem.W.mg_of X G a28) b28 F28.kp (ok_law_layers F28 B KC KL WD )
  have G_law_name : Fn l.prog w K mg base "_law_name" 1 R_law_name := fn_wrap (PySem.W.mg_of X G a29) b29 F29.kp (ok_law_name F29 B KC KL WD )
  have G_law_qrule : Fn l.prog w K mg base "_law_qrule" 1 R_law_qrule := fn_wrap (PySem.W.mg_of X G a33) b33 F33.kp (ok_law_qrule F33 B KC KL WD )
  have G_is_rule_over : Fn l.prog w K mg base "is_rule_over" 2 R_is_rule_over := fn_wrap (PySem.W.mg_of X G a3) b3 F3.kp (ok_is_rule_over F3 B KC KL WD G_rule_layers G_rule_numbers)
  have G_is_new_layer : Fn l.prog w K mg base "is_new_layer" 2 R_is_new_layer := fn_wrap (PySem.W.mg_of X G a7) b7 F7.kp (ok_is_new_layer F7 B KC KL WD G_is_name)
  have G_read_integers : Fn l.prog w K mg base "read_integers" 2 R_read_integers := fn_wrap (PySem.W.mg_of X G a10) b10 F10.kp (ok_read_integers F10 B KC KL WD G_is_integer)
  have G_Reader_read_word : FnML l.prog w K mg base "Reader" "_read_word" 2 R_Reader_read_word := ⟨⟨C_Reader, f17, _, _, aC_Reader, ⟨pg_Reader, hd_Reader, po_Reader, sa_Reader⟩, ⟨a17, i17, k17⟩, ok_Reader_read_word F17 B KC KL WD G_Reader_next_word, b17⟩⟩
  have G_law_qrules : Fn l.prog w K mg base "_law_qrules" 2 R_law_qrules := fn_wrap (PySem.W.mg_of X G a34) b34 F34.kp (ok_law_qrules F34 B KC KL WD G_law_draws G_law_qrule)
  have G_Reader_size : FnML l.prog w K mg base "Reader" "_size" 3 R_Reader_size := ⟨⟨C_Reader, f21, _, _, aC_Reader, ⟨pg_Reader, hd_Reader, po_Reader, sa_Reader⟩, ⟨a21, i21, k21⟩, ok_Reader_size F21 B KC KL WD G_Reader_read_word G_is_size G_read_integers, b21⟩⟩
  have G_read_rule : Fn l.prog w K mg base "read_rule" 3 R_read_rule := fn_wrap (PySem.W.mg_of X G a23) b23 F23.kp (ok_read_rule F23 B KC KL WD G_is_rule_over G_read_integers)
  have G_law_qexpression_d0 : Fn l.prog w K mg base "_law_qexpression" 1 R_law_qexpression_d0 := fn_wrap (PySem.W.mg_of X G a31) b31 F31.kp (ok_law_qexpression_d0 F31 B KC KL WD )
  have G_law_qexpression_d1 : Fn l.prog w K mg base "_law_qexpression" 2 R_law_qexpression_d1 := fn_wrap (PySem.W.mg_of X G a31) b31 F31.kp (ok_law_qexpression_d1 F31 B KC KL WD G_law_qexpression_d0 G_law_qexpression_d0)
  have G_law_qexpression_d2 : Fn l.prog w K mg base "_law_qexpression" 3 R_law_qexpression_d2 := fn_wrap (PySem.W.mg_of X G a31) b31 F31.kp (ok_law_qexpression_d2 F31 B KC KL WD G_law_qexpression_d1 G_law_qexpression_d1)
  have G_law_qexpression_d3 : Fn l.prog w K mg base "_law_qexpression" 4 R_law_qexpression_d3 := fn_wrap (PySem.W.mg_of X G a31) b31 F31.kp (ok_law_qexpression_d3 F31 B KC KL WD G_law_qexpression_d2 G_law_qexpression_d2)
  have G_law_qexpression_d4 : Fn l.prog w K mg base "_law_qexpression" 5 R_law_qexpression_d4 := fn_wrap (PySem.W.mg_of X G a31) b31 F31.kp (ok_law_qexpression_d4 F31 B KC KL WD G_law_qexpression_d3 G_law_qexpression_d3)
  have G_law_qwords_q1 : Fn l.prog w K mg base "_law_qwords" 1 R_law_qwords_q1 := fn_wrap (PySem.W.mg_of X G a35) b35 F35.kp (ok_law_qwords_q1 F35 B KC KL WD )
  have G_law_qwords_q2 : Fn l.prog w K mg base "_law_qwords" 2 R_law_qwords_q2 := fn_wrap (PySem.W.mg_of X G a35) b35 F35.kp (ok_law_qwords_q2 F35 B KC KL WD G_law_qwords_q1 G_law_qwords_q1)
  have G_law_qwords_q3 : Fn l.prog w K mg base "_law_qwords" 3 R_law_qwords_q3 := fn_wrap (PySem.W.mg_of X G a35) b35 F35.kp (ok_law_qwords_q3 F35 B KC KL WD G_law_qwords_q2 G_law_qwords_q2)
  have G_law_qwords_q4 : Fn l.prog w K mg base "_law_qwords" 4 R_law_qwords_q4 := fn_wrap (PySem.W.mg_of X G a35) b35 F35.kp (ok_law_qwords_q4 F35 B KC KL WD G_law_qwords_q3 G_law_qwords_q3)
  have G_law_qwords_q5 : Fn l.prog w K mg base "_law_qwords" 5 R_law_qwords_q5 := fn_wrap (PySem.W.mg_of X G a35) b35 F35.kp (ok_law_qwords_q5 F35 B KC KL WD G_law_qwords_q4 G_law_qwords_q4)
  have G_law_qdefinitions : Fn l.prog w K mg base "_law_qdefinitions" 6 R_law_qdefinitions := fn_wrap (PySem.W.mg_of X G a32) b32 F32.kp (ok_law_qdefinitions F32 B KC KL WD G_law_draws G_law_layers G_law_name G_law_qexpression_d4 G_law_qexpression_d4)
  have G_law_qdeck_lines : Fn l.prog w K mg base "_law_qdeck_lines" 6 R_law_qdeck_lines := fn_wrap (PySem.W.mg_of X G a36) b36 F36.kp (ok_law_qdeck_lines F36 B KC KL WD G_law_qwords_q5 G_law_qwords_q5)
  have G_law_like_int : Fn l.prog w K mg base "_law_like" 1 R_law_like_int := fn_wrap (PySem.W.mg_of X G a30) b30 F30.kp (ok_law_like_int F30 B KC KL WD )
  have G_law_like_str : Fn l.prog w K mg base "_law_like" 2 R_law_like_str := fn_wrap (PySem.W.mg_of X G a30) b30 F30.kp (ok_law_like_str F30 B KC KL WD )
  have G_law_like_m1 : Fn l.prog w K mg base "_law_like" 3 R_law_like_m1 := fn_wrap (PySem.W.mg_of X G a30) b30 F30.kp (ok_law_like_m1 F30 B KC KL WD G_law_like_int G_law_like_str)
  have G_law_like_m2 : Fn l.prog w K mg base "_law_like" 4 R_law_like_m2 := fn_wrap (PySem.W.mg_of X G a30) b30 F30.kp (ok_law_like_m2 F30 B KC KL WD G_law_like_int G_law_like_m1 G_law_like_str)
  have G_law_like_m3 : Fn l.prog w K mg base "_law_like" 5 R_law_like_m3 := fn_wrap (PySem.W.mg_of X G a30) b30 F30.kp (ok_law_like_m3 F30 B KC KL WD G_law_like_int G_law_like_m2 G_law_like_str)
  have G_law_like_m4 : Fn l.prog w K mg base "_law_like" 6 R_law_like_m4 := fn_wrap (PySem.W.mg_of X G a30) b30 F30.kp (ok_law_like_m4 F30 B KC KL WD G_law_like_int G_law_like_m3 G_law_like_str)
  have G_law_like_m5 : Fn l.prog w K mg base "_law_like" 7 R_law_like_m5 := fn_wrap (PySem.W.mg_of X G a30) b30 F30.kp (ok_law_like_m5 F30 B KC KL WD G_law_like_int G_law_like_m4 G_law_like_str)
  have G_law_like_m6 : Fn l.prog w K mg base "_law_like" 8 R_law_like_m6 := fn_wrap (PySem.W.mg_of X G a30) b30 F30.kp (ok_law_like_m6 F30 B KC KL WD G_law_like_int G_law_like_m5 G_law_like_str)
  have G_law_like_m7 : Fn l.prog w K mg base "_law_like" 9 R_law_like_m7 := fn_wrap (PySem.W.mg_of X G a30) b30 F30.kp (ok_law_like_m7 F30 B KC KL WD G_law_like_int G_law_like_m6 G_law_like_str)
  have G_expression_words_e1 : Fn l.prog w K mg base "expression_words" 1 R_expression_words_e1 := fn_wrap (PySem.W.mg_of X G a11) b11 F11.kp (ok_expression_words_e1 F11 B KC KL WD )
  have G_part_words_e1 : Fn l.prog w K mg base "part_words" 2 R_part_words_e1 := fn_wrap (PySem.W.mg_of X G a12) b12 F12.kp (ok_part_words_e1 F12 B KC KL WD G_expression_words_e1 G_expression_words_e1)
  have G_expression_words_e2 : Fn l.prog w K mg base "expression_words" 3 R_expression_words_e2 := fn_wrap (PySem.W.mg_of X G a11) b11 F11.kp (ok_expression_words_e2 F11 B KC KL WD G_expression_words_e1 G_expression_words_e1 G_part_words_e1 G_part_words_e1)
  have G_part_words_e2 : Fn l.prog w K mg base "part_words" 4 R_part_words_e2 := fn_wrap (PySem.W.mg_of X G a12) b12 F12.kp (ok_part_words_e2 F12 B KC KL WD G_expression_words_e2 G_expression_words_e2)
  have G_expression_words_e3 : Fn l.prog w K mg base "expression_words" 5 R_expression_words_e3 := fn_wrap (PySem.W.mg_of X G a11) b11 F11.kp (ok_expression_words_e3 F11 B KC KL WD G_expression_words_e2 G_expression_words_e2 G_part_words_e2 G_part_words_e2)
  have G_part_words_e3 : Fn l.prog w K mg base "part_words" 6 R_part_words_e3 := fn_wrap (PySem.W.mg_of X G a12) b12 F12.kp (ok_part_words_e3 F12 B KC KL WD G_expression_words_e3 G_expression_words_e3)
  have G_expression_words_e4 : Fn l.prog w K mg base "expression_words" 7 R_expression_words_e4 := fn_wrap (PySem.W.mg_of X G a11) b11 F11.kp (ok_expression_words_e4 F11 B KC KL WD G_expression_words_e3 G_expression_words_e3 G_part_words_e3 G_part_words_e3)
  have G_part_words_e4 : Fn l.prog w K mg base "part_words" 8 R_part_words_e4 := fn_wrap (PySem.W.mg_of X G a12) b12 F12.kp (ok_part_words_e4 F12 B KC KL WD G_expression_words_e4 G_expression_words_e4)
  have G_expression_words_e5 : Fn l.prog w K mg base "expression_words" 9 R_expression_words_e5 := fn_wrap (PySem.W.mg_of X G a11) b11 F11.kp (ok_expression_words_e5 F11 B KC KL WD G_expression_words_e4 G_expression_words_e4 G_part_words_e4 G_part_words_e4)
  have G_part_words_e5 : Fn l.prog w K mg base "part_words" 10 R_part_words_e5 := fn_wrap (PySem.W.mg_of X G a12) b12 F12.kp (ok_part_words_e5 F12 B KC KL WD G_expression_words_e5 G_expression_words_e5)
  have G_format_deck : Fn l.prog w K mg base "format_deck" 11 R_format_deck := fn_wrap (PySem.W.mg_of X G a13) b13 F13.kp (ok_format_deck F13 B KC KL WD G_expression_words_e5 G_expression_words_e5)
  have G_is_expression_over_z0 : Fn l.prog w K mg base "is_expression_over" 2 R_is_expression_over_z0 := fn_wrap (PySem.W.mg_of X G a6) b6 F6.kp (ok_is_expression_over_z0 F6 B KC KL WD )
  have G_is_expression_over_z1 : Fn l.prog w K mg base "is_expression_over" 3 R_is_expression_over_z1 := fn_wrap (PySem.W.mg_of X G a6) b6 F6.kp (ok_is_expression_over_z1 F6 B KC KL WD G_is_expression_over_z0 G_is_expression_over_z0 G_is_size G_parts_of)
  have G_is_expression_over_z2 : Fn l.prog w K mg base "is_expression_over" 4 R_is_expression_over_z2 := fn_wrap (PySem.W.mg_of X G a6) b6 F6.kp (ok_is_expression_over_z2 F6 B KC KL WD G_is_expression_over_z1 G_is_expression_over_z1 G_is_size G_parts_of)
  have G_is_expression_over_z3 : Fn l.prog w K mg base "is_expression_over" 5 R_is_expression_over_z3 := fn_wrap (PySem.W.mg_of X G a6) b6 F6.kp (ok_is_expression_over_z3 F6 B KC KL WD G_is_expression_over_z2 G_is_expression_over_z2 G_is_size G_parts_of)
  have G_is_expression_over_z4 : Fn l.prog w K mg base "is_expression_over" 6 R_is_expression_over_z4 := fn_wrap (PySem.W.mg_of X G a6) b6 F6.kp (ok_is_expression_over_z4 F6 B KC KL WD G_is_expression_over_z3 G_is_expression_over_z3 G_is_size G_parts_of)
  have G_is_expression_over_z5 : Fn l.prog w K mg base "is_expression_over" 7 R_is_expression_over_z5 := fn_wrap (PySem.W.mg_of X G a6) b6 F6.kp (ok_is_expression_over_z5 F6 B KC KL WD G_is_expression_over_z4 G_is_expression_over_z4 G_is_size G_parts_of)
  have G_is_expression_over_z6 : Fn l.prog w K mg base "is_expression_over" 8 R_is_expression_over_z6 := fn_wrap (PySem.W.mg_of X G a6) b6 F6.kp (ok_is_expression_over_z6 F6 B KC KL WD G_is_expression_over_z5 G_is_expression_over_z5 G_is_size G_parts_of)
  have G_is_expression_over_z7 : Fn l.prog w K mg base "is_expression_over" 9 R_is_expression_over_z7 := fn_wrap (PySem.W.mg_of X G a6) b6 F6.kp (ok_is_expression_over_z7 F6 B KC KL WD G_is_expression_over_z6 G_is_expression_over_z6 G_is_size G_parts_of)
  have G_is_expression_over_z8 : Fn l.prog w K mg base "is_expression_over" 10 R_is_expression_over_z8 := fn_wrap (PySem.W.mg_of X G a6) b6 F6.kp (ok_is_expression_over_z8 F6 B KC KL WD G_is_expression_over_z7 G_is_expression_over_z7 G_is_size G_parts_of)
  have G_is_expression_over_z9 : Fn l.prog w K mg base "is_expression_over" 11 R_is_expression_over_z9 := fn_wrap (PySem.W.mg_of X G a6) b6 F6.kp (ok_is_expression_over_z9 F6 B KC KL WD G_is_expression_over_z8 G_is_expression_over_z8 G_is_size G_parts_of)
  have G_is_expression_over_z10 : Fn l.prog w K mg base "is_expression_over" 12 R_is_expression_over_z10 := fn_wrap (PySem.W.mg_of X G a6) b6 F6.kp (ok_is_expression_over_z10 F6 B KC KL WD G_is_expression_over_z9 G_is_expression_over_z9 G_is_size G_parts_of)
  have G_is_expression_over_z11 : Fn l.prog w K mg base "is_expression_over" 13 R_is_expression_over_z11 := fn_wrap (PySem.W.mg_of X G a6) b6 F6.kp (ok_is_expression_over_z11 F6 B KC KL WD G_is_expression_over_z10 G_is_expression_over_z10 G_is_size G_parts_of)
  have G_is_expression_over_z12 : Fn l.prog w K mg base "is_expression_over" 14 R_is_expression_over_z12 := fn_wrap (PySem.W.mg_of X G a6) b6 F6.kp (ok_is_expression_over_z12 F6 B KC KL WD G_is_expression_over_z11 G_is_expression_over_z11 G_is_size G_parts_of)
  have G_Deck_init : FnI l.prog w K mg base "Deck" 15 R_Deck_init := ⟨⟨C_Deck, f8, _, _, aC_Deck, PySem.W.mg_of X G aC_Deck, ⟨mk_Deck, a8, i8, kc_Deck⟩, ok_Deck_init F8 B KC KL WD G_is_expression_over_z12 G_is_expression_over_z12 G_is_new_layer G_is_rule_over, b8⟩⟩
  have G_Reader_part_p1 : FnML l.prog w K mg base "Reader" "_part" 4 R_Reader_part_p1 := ⟨⟨C_Reader, f19, _, _, aC_Reader, ⟨pg_Reader, hd_Reader, po_Reader, sa_Reader⟩, ⟨a19, i19, k19⟩, ok_Reader_part_p1 F19 B KC KL WD G_Reader_read_word, b19⟩⟩
  have G_Reader_chain_p2 : FnML l.prog w K mg base "Reader" "_chain" 5 R_Reader_chain_p2 := ⟨⟨C_Reader, f18, _, _, aC_Reader, ⟨pg_Reader, hd_Reader, po_Reader, sa_Reader⟩, ⟨a18, i18, k18⟩, ok_Reader_chain_p2 F18 B KC KL WD G_Reader_next_word G_Reader_part_p1 G_Reader_read_word, b18⟩⟩
  have G_Reader_in_parentheses_p2 : FnML l.prog w K mg base "Reader" "_in_parentheses" 6 R_Reader_in_parentheses_p2 := ⟨⟨C_Reader, f20, _, _, aC_Reader, ⟨pg_Reader, hd_Reader, po_Reader, sa_Reader⟩, ⟨a20, i20, k20⟩, ok_Reader_in_parentheses_p2 F20 B KC KL WD G_Reader_chain_p2 G_Reader_read_word, b20⟩⟩
  have G_Reader_part_p2 : FnML l.prog w K mg base "Reader" "_part" 7 R_Reader_part_p2 := ⟨⟨C_Reader, f19, _, _, aC_Reader, ⟨pg_Reader, hd_Reader, po_Reader, sa_Reader⟩, ⟨a19, i19, k19⟩, ok_Reader_part_p2 F19 B KC KL WD G_Reader_in_parentheses_p2 G_Reader_part_p1 G_Reader_read_word G_Reader_size, b19⟩⟩
  have G_Reader_chain_p3 : FnML l.prog w K mg base "Reader" "_chain" 8 R_Reader_chain_p3 := ⟨⟨C_Reader, f18, _, _, aC_Reader, ⟨pg_Reader, hd_Reader, po_Reader, sa_Reader⟩, ⟨a18, i18, k18⟩, ok_Reader_chain_p3 F18 B KC KL WD G_Reader_next_word G_Reader_part_p2 G_Reader_read_word, b18⟩⟩
  have G_Reader_in_parentheses_p3 : FnML l.prog w K mg base "Reader" "_in_parentheses" 9 R_Reader_in_parentheses_p3 := ⟨⟨C_Reader, f20, _, _, aC_Reader, ⟨pg_Reader, hd_Reader, po_Reader, sa_Reader⟩, ⟨a20, i20, k20⟩, ok_Reader_in_parentheses_p3 F20 B KC KL WD G_Reader_chain_p3 G_Reader_read_word, b20⟩⟩
  have G_Reader_part_p3 : FnML l.prog w K mg base "Reader" "_part" 10 R_Reader_part_p3 := ⟨⟨C_Reader, f19, _, _, aC_Reader, ⟨pg_Reader, hd_Reader, po_Reader, sa_Reader⟩, ⟨a19, i19, k19⟩, ok_Reader_part_p3 F19 B KC KL WD G_Reader_in_parentheses_p3 G_Reader_part_p2 G_Reader_read_word G_Reader_size, b19⟩⟩
  have G_Reader_chain_p4 : FnML l.prog w K mg base "Reader" "_chain" 11 R_Reader_chain_p4 := ⟨⟨C_Reader, f18, _, _, aC_Reader, ⟨pg_Reader, hd_Reader, po_Reader, sa_Reader⟩, ⟨a18, i18, k18⟩, ok_Reader_chain_p4 F18 B KC KL WD G_Reader_next_word G_Reader_part_p3 G_Reader_read_word, b18⟩⟩
  have G_Reader_in_parentheses_p4 : FnML l.prog w K mg base "Reader" "_in_parentheses" 12 R_Reader_in_parentheses_p4 := ⟨⟨C_Reader, f20, _, _, aC_Reader, ⟨pg_Reader, hd_Reader, po_Reader, sa_Reader⟩, ⟨a20, i20, k20⟩, ok_Reader_in_parentheses_p4 F20 B KC KL WD G_Reader_chain_p4 G_Reader_read_word, b20⟩⟩
  have G_Reader_part_p4 : FnML l.prog w K mg base "Reader" "_part" 13 R_Reader_part_p4 := ⟨⟨C_Reader, f19, _, _, aC_Reader, ⟨pg_Reader, hd_Reader, po_Reader, sa_Reader⟩, ⟨a19, i19, k19⟩, ok_Reader_part_p4 F19 B KC KL WD G_Reader_in_parentheses_p4 G_Reader_part_p3 G_Reader_read_word G_Reader_size, b19⟩⟩
  have G_Reader_chain_p5 : FnML l.prog w K mg base "Reader" "_chain" 14 R_Reader_chain_p5 := ⟨⟨C_Reader, f18, _, _, aC_Reader, ⟨pg_Reader, hd_Reader, po_Reader, sa_Reader⟩, ⟨a18, i18, k18⟩, ok_Reader_chain_p5 F18 B KC KL WD G_Reader_next_word G_Reader_part_p4 G_Reader_read_word, b18⟩⟩
  have G_Reader_in_parentheses_p5 : FnML l.prog w K mg base "Reader" "_in_parentheses" 15 R_Reader_in_parentheses_p5 := ⟨⟨C_Reader, f20, _, _, aC_Reader, ⟨pg_Reader, hd_Reader, po_Reader, sa_Reader⟩, ⟨a20, i20, k20⟩, ok_Reader_in_parentheses_p5 F20 B KC KL WD G_Reader_chain_p5 G_Reader_read_word, b20⟩⟩
  have G_Reader_part_p5 : FnML l.prog w K mg base "Reader" "_part" 16 R_Reader_part_p5 := ⟨⟨C_Reader, f19, _, _, aC_Reader, ⟨pg_Reader, hd_Reader, po_Reader, sa_Reader⟩, ⟨a19, i19, k19⟩, ok_Reader_part_p5 F19 B KC KL WD G_Reader_in_parentheses_p5 G_Reader_part_p4 G_Reader_read_word G_Reader_size, b19⟩⟩
  have G_Reader_chain_p6 : FnML l.prog w K mg base "Reader" "_chain" 17 R_Reader_chain_p6 := ⟨⟨C_Reader, f18, _, _, aC_Reader, ⟨pg_Reader, hd_Reader, po_Reader, sa_Reader⟩, ⟨a18, i18, k18⟩, ok_Reader_chain_p6 F18 B KC KL WD G_Reader_next_word G_Reader_part_p5 G_Reader_read_word, b18⟩⟩
  have G_Reader_read_all : FnML l.prog w K mg base "Reader" "read_all" 18 R_Reader_read_all := ⟨⟨C_Reader, f15, _, _, aC_Reader, ⟨pg_Reader, hd_Reader, po_Reader, sa_Reader⟩, ⟨a15, i15, k15⟩, ok_Reader_read_all F15 B KC KL WD G_Reader_chain_p6, b15⟩⟩
  have G_read_definition : Fn l.prog w K mg base "read_definition" 19 R_read_definition := fn_wrap (PySem.W.mg_of X G a22) b22 F22.kp (ok_read_definition F22 B KC KL WD G_Reader_init G_Reader_read_all G_is_new_layer)
  have G_parse_deck : Fn l.prog w K mg base "parse_deck" 20 R_parse_deck := fn_wrap (PySem.W.mg_of X G a24) b24 F24.kp (ok_parse_deck F24 B KC KL WD G_Deck_init G_read_definition G_read_rule)
  exact ok_law F37 B KC KL WD G_Deck_init G_law_cell G_law_is_text G_law_layers G_law_like_m7 G_law_like_m7 G_law_qdeck_lines G_law_qdefinitions G_law_qrules G_format_deck G_parse_deck
end DL
open PySem PySem.W PyProof.Rows
local macro_rules | `(tactic| walk_at "kd") => `(tactic| first | exact DL.kd_int | exact DL.kd_bl | exact DL.kd_str | (refine' DL.kd_tup ?l ?c ?e ?z ?r; (case l => k_is); (case c => rfl); (case e => rfl); (case z => decide); (case r => walk_at "kds")))
local macro_rules | `(tactic| walk_at "kds") => `(tactic| first | exact DL.kds_nil | (refine' DL.kds_cons ?a ?b; (case a => walk_at "kd"); (case b => walk_at "kds")))
set_option maxRecDepth 100000 in
set_option maxHeartbeats 0 in
theorem PySem.Challenge.cw_reticle_k47_written_decks_holds : PySem.Challenge.rw_reticle_k47_written_decks.Holds := by
  w_on; o_law; k_head; (case hw => w_witness2)
  k_fill
  refine DL.walk_law (l := PySem.Challenge.rw_reticle_k47_written_decks) (k := 21) rfl ⟨rfl, by decide, by decide⟩ rfl (fun w h Y => PySem.W.kIn_of Y) ?F
  case F =>
    intro w mg fa h KX G hmg
    refine' DL.all_mk KX G hmg ?aC_Deck ?pg_Deck ?hd_Deck ?po_Deck ?sa_Deck ?ha_Deck ?hn_Deck ?htk_Deck ?hm_Deck ?kc_Deck ?mk_Deck ?na0_Deck ?na1_Deck ?aC_Reader ?pg_Reader ?hd_Reader ?po_Reader ?sa_Reader ?ha_Reader ?hn_Reader ?htk_Reader ?hm_Reader ?kc_Reader ?mk_Reader ?na0_Reader ?na1_Reader ?na2_Reader ?na3_Reader ?a0 ?l0 ?c0 ?k0 ?a1 ?l1 ?c1 ?k1 ?a2 ?l2 ?c2 ?k2 ?a3 ?l3 ?c3 ?k3 ?a4 ?l4 ?c4 ?k4 ?a5 ?l5 ?c5 ?k5 ?a6 ?l6 ?c6 ?k6 ?a7 ?l7 ?c7 ?k7 ?a8 ?i8 ?l8 ?c8 ?k8 ?a9 ?l9 ?c9 ?k9 ?a10 ?l10 ?c10 ?k10 ?a11 ?l11 ?c11 ?k11 ?a12 ?l12 ?c12 ?k12 ?a13 ?l13 ?c13 ?k13 ?a14 ?i14 ?l14 ?c14 ?k14 ?a15 ?i15 ?l15 ?c15 ?k15 ?a16 ?i16 ?l16 ?c16 ?k16 ?a17 ?i17 ?l17 ?c17 ?k17 ?a18 ?i18 ?l18 ?c18 ?k18 ?a19 ?i19 ?l19 ?c19 ?k19 ?a20 ?i20 ?l20 ?c20 ?k20 ?a21 ?i21 ?l21 ?c21 ?k21 ?a22 ?l22 ?c22 ?k22 ?a23 ?l23 ?c23 ?k23 ?a24 ?l24 ?c24 ?k24 ?a25 ?l25 ?c25 ?k25 ?a26 ?l26 ?c26 ?k26 ?a27 ?l27 ?c27 ?k27 ?a28 ?l28 ?c28 ?k28 ?a29 ?l29 ?c29 ?k29 ?a30 ?l30 ?c30 ?k30 ?a31 ?l31 ?c31 ?k31 ?a32 ?l32 ?c32 ?k32 ?a33 ?l33 ?c33 ?k33 ?a34 ?l34 ?c34 ?k34 ?a35 ?l35 ?c35 ?k35 ?a36 ?l36 ?c36 ?k36 ?a37 ?l37 ?c37 ?k37 ?z_all ?z_bool ?z_enumerate ?z_int ?z_isinstance ?z_len ?z_list ?z_max ?z_range ?z_set ?z_str ?z_tuple ?y_FROM_ZERO ?w_FROM_ZERO ?y_GREATEST_DEPTH ?w_GREATEST_DEPTH ?y_GREATEST_NUMBER ?w_GREATEST_NUMBER ?y_LAYERS ?w_LAYERS ?y_MOST_CHARACTERS ?w_MOST_CHARACTERS ?y_MOST_DEFINITIONS ?w_MOST_DEFINITIONS ?y_MOST_DIGITS ?w_MOST_DIGITS ?y_MOST_RULES ?w_MOST_RULES ?y_PAIRING ?w_PAIRING ?y_SIZING ?w_SIZING ?y_WORDS ?w_WORDS ?a_LAYER_COUNTS ?l_LAYER_COUNTS ?q_LAYER_COUNTS ?lo_LAYER_COUNTS ?v0_LAYER_COUNTS ?d0_LAYER_COUNTS ?v1_LAYER_COUNTS ?d1_LAYER_COUNTS ?v2_LAYER_COUNTS ?d2_LAYER_COUNTS ?v3_LAYER_COUNTS ?d3_LAYER_COUNTS ?v4_LAYER_COUNTS ?d4_LAYER_COUNTS ?v5_LAYER_COUNTS ?d5_LAYER_COUNTS ?v6_LAYER_COUNTS ?d6_LAYER_COUNTS ?a_NUMBER_COUNTS ?l_NUMBER_COUNTS ?q_NUMBER_COUNTS ?v0_NUMBER_COUNTS ?d0_NUMBER_COUNTS ?v1_NUMBER_COUNTS ?d1_NUMBER_COUNTS ?v2_NUMBER_COUNTS ?d2_NUMBER_COUNTS ?v3_NUMBER_COUNTS ?d3_NUMBER_COUNTS ?v4_NUMBER_COUNTS ?d4_NUMBER_COUNTS ?v5_NUMBER_COUNTS ?d5_NUMBER_COUNTS ?v6_NUMBER_COUNTS ?d6_NUMBER_COUNTS
    (case aC_Deck => k_is); (case pg_Deck => k_is); (case hd_Deck => k_is); (case po_Deck => k_is); (case sa_Deck => k_is); (case ha_Deck => k_is); (case hn_Deck => k_is); (case htk_Deck => k_is)
    (case hm_Deck => k_is); (case kc_Deck => k_is); (case mk_Deck => k_is); (case na0_Deck => k_is); (case na1_Deck => k_is); (case aC_Reader => k_is); (case pg_Reader => k_is); (case hd_Reader => k_is)
    (case po_Reader => k_is); (case sa_Reader => k_is); (case ha_Reader => k_is); (case hn_Reader => k_is); (case htk_Reader => k_is); (case hm_Reader => k_is); (case kc_Reader => k_is); (case mk_Reader => k_is)
    (case na0_Reader => k_is); (case na1_Reader => k_is); (case na2_Reader => k_is); (case na3_Reader => k_is); (case a0 => k_is); (case l0 => k_is); (case c0 => k_is); (case k0 => k_is)
    (case a1 => k_is); (case l1 => k_is); (case c1 => k_is); (case k1 => k_is); (case a2 => k_is); (case l2 => k_is); (case c2 => k_is); (case k2 => k_is)
    (case a3 => k_is); (case l3 => k_is); (case c3 => k_is); (case k3 => k_is); (case a4 => k_is); (case l4 => k_is); (case c4 => k_is); (case k4 => k_is)
    (case a5 => k_is); (case l5 => k_is); (case c5 => k_is); (case k5 => k_is); (case a6 => k_is); (case l6 => k_is); (case c6 => k_is); (case k6 => k_is)
    (case a7 => k_is); (case l7 => k_is); (case c7 => k_is); (case k7 => k_is); (case a8 => k_is); (case i8 => k_is); (case l8 => k_is); (case c8 => k_is)
    (case k8 => k_is); (case a9 => k_is); (case l9 => k_is); (case c9 => k_is); (case k9 => k_is); (case a10 => k_is); (case l10 => k_is); (case c10 => k_is)
    (case k10 => k_is); (case a11 => k_is); (case l11 => k_is); (case c11 => k_is); (case k11 => k_is); (case a12 => k_is); (case l12 => k_is); (case c12 => k_is)
    (case k12 => k_is); (case a13 => k_is); (case l13 => k_is); (case c13 => k_is); (case k13 => k_is); (case a14 => k_is); (case i14 => k_is); (case l14 => k_is)
    (case c14 => k_is); (case k14 => k_is); (case a15 => k_is); (case i15 => k_is); (case l15 => k_is); (case c15 => k_is); (case k15 => k_is); (case a16 => k_is)
    (case i16 => k_is); (case l16 => k_is); (case c16 => k_is); (case k16 => k_is); (case a17 => k_is); (case i17 => k_is); (case l17 => k_is); (case c17 => k_is)
    (case k17 => k_is); (case a18 => k_is); (case i18 => k_is); (case l18 => k_is); (case c18 => k_is); (case k18 => k_is); (case a19 => k_is); (case i19 => k_is)
    (case l19 => k_is); (case c19 => k_is); (case k19 => k_is); (case a20 => k_is); (case i20 => k_is); (case l20 => k_is); (case c20 => k_is); (case k20 => k_is)
    (case a21 => k_is); (case i21 => k_is); (case l21 => k_is); (case c21 => k_is); (case k21 => k_is); (case a22 => k_is); (case l22 => k_is); (case c22 => k_is)
    (case k22 => k_is); (case a23 => k_is); (case l23 => k_is); (case c23 => k_is); (case k23 => k_is); (case a24 => k_is); (case l24 => k_is); (case c24 => k_is)
    (case k24 => k_is); (case a25 => k_is); (case l25 => k_is); (case c25 => k_is); (case k25 => k_is); (case a26 => k_is); (case l26 => k_is); (case c26 => k_is)
    (case k26 => k_is); (case a27 => k_is); (case l27 => k_is); (case c27 => k_is); (case k27 => k_is); (case a28 => k_is); (case l28 => k_is); (case c28 => k_is)
    (case k28 => k_is); (case a29 => k_is); (case l29 => k_is); (case c29 => k_is); (case k29 => k_is); (case a30 => k_is); (case l30 => k_is); (case c30 => k_is)
    (case k30 => k_is); (case a31 => k_is); (case l31 => k_is); (case c31 => k_is); (case k31 => k_is); (case a32 => k_is); (case l32 => k_is); (case c32 => k_is)
    (case k32 => k_is); (case a33 => k_is); (case l33 => k_is); (case c33 => k_is); (case k33 => k_is); (case a34 => k_is); (case l34 => k_is); (case c34 => k_is)
    (case k34 => k_is); (case a35 => k_is); (case l35 => k_is); (case c35 => k_is); (case k35 => k_is); (case a36 => k_is); (case l36 => k_is); (case c36 => k_is)
    (case k36 => k_is); (case a37 => k_is); (case l37 => k_is); (case c37 => k_is); (case k37 => k_is); (case z_all => k_is); (case z_bool => k_is); (case z_enumerate => k_is)
    (case z_int => k_is); (case z_isinstance => k_is); (case z_len => k_is); (case z_list => k_is); (case z_max => k_is); (case z_range => k_is); (case z_set => k_is); (case z_str => k_is)
    (case z_tuple => k_is); (case y_FROM_ZERO => k_is); (case w_FROM_ZERO => walk_at "kd"); (case y_GREATEST_DEPTH => k_is); (case w_GREATEST_DEPTH => walk_at "kd"); (case y_GREATEST_NUMBER => k_is); (case w_GREATEST_NUMBER => walk_at "kd"); (case y_LAYERS => k_is)
    (case w_LAYERS => walk_at "kd"); (case y_MOST_CHARACTERS => k_is); (case w_MOST_CHARACTERS => walk_at "kd"); (case y_MOST_DEFINITIONS => k_is); (case w_MOST_DEFINITIONS => walk_at "kd"); (case y_MOST_DIGITS => k_is); (case w_MOST_DIGITS => walk_at "kd"); (case y_MOST_RULES => k_is)
    (case w_MOST_RULES => walk_at "kd"); (case y_PAIRING => k_is); (case w_PAIRING => walk_at "kd"); (case y_SIZING => k_is); (case w_SIZING => walk_at "kd"); (case y_WORDS => k_is); (case w_WORDS => walk_at "kd"); (case a_LAYER_COUNTS => k_is)
    (case l_LAYER_COUNTS => k_is); (case q_LAYER_COUNTS => exact ⟨⟨_, _, rfl, rfl⟩, ⟨⟨_, _, rfl, rfl⟩, ⟨⟨_, _, rfl, rfl⟩, ⟨⟨_, _, rfl, rfl⟩, ⟨⟨_, _, rfl, rfl⟩, ⟨⟨_, _, rfl, rfl⟩, ⟨⟨_, _, rfl, rfl⟩, trivial⟩⟩⟩⟩⟩⟩⟩); (case lo_LAYER_COUNTS => first | rfl | decide); (case v0_LAYER_COUNTS => k_is); (case d0_LAYER_COUNTS => walk_at "kd"); (case v1_LAYER_COUNTS => k_is); (case d1_LAYER_COUNTS => walk_at "kd"); (case v2_LAYER_COUNTS => k_is)
    (case d2_LAYER_COUNTS => walk_at "kd"); (case v3_LAYER_COUNTS => k_is); (case d3_LAYER_COUNTS => walk_at "kd"); (case v4_LAYER_COUNTS => k_is); (case d4_LAYER_COUNTS => walk_at "kd"); (case v5_LAYER_COUNTS => k_is); (case d5_LAYER_COUNTS => walk_at "kd"); (case v6_LAYER_COUNTS => k_is)
    (case d6_LAYER_COUNTS => walk_at "kd"); (case a_NUMBER_COUNTS => k_is); (case l_NUMBER_COUNTS => k_is); (case q_NUMBER_COUNTS => exact ⟨⟨_, _, rfl, rfl⟩, ⟨⟨_, _, rfl, rfl⟩, ⟨⟨_, _, rfl, rfl⟩, ⟨⟨_, _, rfl, rfl⟩, ⟨⟨_, _, rfl, rfl⟩, ⟨⟨_, _, rfl, rfl⟩, ⟨⟨_, _, rfl, rfl⟩, trivial⟩⟩⟩⟩⟩⟩⟩); (case v0_NUMBER_COUNTS => k_is); (case d0_NUMBER_COUNTS => walk_at "kd"); (case v1_NUMBER_COUNTS => k_is); (case d1_NUMBER_COUNTS => walk_at "kd")
    (case v2_NUMBER_COUNTS => k_is); (case d2_NUMBER_COUNTS => walk_at "kd"); (case v3_NUMBER_COUNTS => k_is); (case d3_NUMBER_COUNTS => walk_at "kd"); (case v4_NUMBER_COUNTS => k_is); (case d4_NUMBER_COUNTS => walk_at "kd"); (case v5_NUMBER_COUNTS => k_is); (case d5_NUMBER_COUNTS => walk_at "kd")
    (case v6_NUMBER_COUNTS => k_is); (case d6_NUMBER_COUNTS => walk_at "kd")
