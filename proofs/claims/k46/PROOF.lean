import PyProof.Rows.All
import Wide.All
import OpenK.AllK
import Wide.FinOn
import HandS.ForMost
import HandS.Walk
import HandS.IsInst
import HandS.Style
import HandS.Defaults
import HandS.NoneIn
import PySem.Challenge.RW_reticle_k46_valid_decks
import HandS.SetKeys
import HandS.SortRule
import HandS.SortInts
import HandS.More
import KE.KDictCopyH
import KE.KDictSum
import HandS.SetFor
import HandS.Flow
import HandS.SortKw
import HandS.ExcValue
import HandS.Deep
import KE.SortKeyHeap
import HandS.Strs
import KE.KDictList
import PyProof.Rows.TupTab
import HandS.TupLen
import HandS.Codes
import KE.SortData
import KE.KDictPairs
import HandS.TupAny
import HandS.DictComp
import PyProof.AutoSeq1
import HandS.Conv
import HandS.SlotsOwn
import HandS.WordsExc
import HandS.ExcIs
import HandS.Small
import HandS.FStr
import PyProof.EnumMake
import PyProof.Draws
import KE.GoesMore
import HandS.DictTup
import KE.DatumOrd
import HandS.Text
import HandS.Property
import PyProof.Rows.Range3
import KE.GoesEnumKw
import KE.GoesEnum
import HandS.Star
import HandS.WordsDict
import HandS.RaiseMore
import HandS.CallLocal
import KE.KIndexOf
import HandS.Call
import KE.KExcSuper
import HandS.NestedK
import HandS.ExcInit
import HandS.ExcField
import HandS.ClsMeth
import HandS.ExcCtx
import HandS.HotCalls
import HandS.ExcInitHot
set_option Elab.async false
set_option linter.all false
set_option maxRecDepth 100000
set_option maxHeartbeats 4000000
namespace DL
open PySem PySem.Spec L2
inductive D where
  | non | bl (b : Bool) | int (i : Int) | str (x : Str) | ty (n : String)
  | lst (xs : List D) | tup (xs : List D)
  | dk (ks : List Key) (ds : List D) | dt (ks : List (List Key)) (ds : List D)
  | obj (cn : Str) (ns : List Str) (ds : List D)
  /-- what stands at a place -/
  | ad (a : Addr)
  /-- a tuple that is known to have no dict -/
  | ptp (xs : List D)
  /-- a tuple that is known to be no constant -/
  | etp (xs : List D)
  /-- an exception of an own class: where it is, where its dict is -/
  | exc (a x : Addr) (ns : List Str) (ds : List D)
mutual
def DR (K : PySem.W.Frag) (H : Hp) : D → V → Prop
  | .non, v => v = .non
  | .bl b, v => v = .bl b
  | .int i, v => v = .int i
  | .str x, v => v = .str x
  | .ty n, v => v = .ty n
  | .lst ds, v => ∃ a vs, v = .ref a ∧ SqL K H a vs ∧ DRs K H ds vs
  | .tup ds, v => ∃ a vs, v = .ref a ∧ SqT K H a vs ∧ DRs K H ds vs
  | .dk ks ds, v => ∃ a vs, v = .ref a ∧ Rd H a (.dK (ks.zip vs)) ∧ ks.length = vs.length ∧ DRs K H ds vs
  | .dt ks ds, v => ∃ a vs, v = .ref a ∧ Rd H a (.dT (ks.zip vs)) ∧ ks.length = vs.length ∧ DRs K H ds vs
  | .obj cn ns ds, v => ∃ a C dx vs, v = .ref a ∧ PySem.W.nsIn K mainGlobals cn = some (some (.ref C)) ∧ H a = some (.ins C dx (ns.zip vs)) ∧ ns.length = vs.length ∧ DRs K H ds vs
  | .ad a, v => v = .ref a
  | .ptp ds, v => ∃ a o vs, v = .ref a ∧ H a = some (.frz o (.tup vs)) ∧ o.dict = none ∧ DRs K H ds vs
  | .etp ds, v => ∃ a vs, v = .ref a ∧ H a = some (.tup vs) ∧ DRs K H ds vs
  | .exc a x ns ds, v => v = .ref a ∧ ∃ vs, H x = some (.xd (ns.zip vs)) ∧ ns.length = vs.length ∧ DRs K H ds vs
def DRs (K : PySem.W.Frag) (H : Hp) : List D → List V → Prop
  | [], vs => vs = []
  | d :: ds, vs => ∃ v r, vs = v :: r ∧ DR K H d v ∧ DRs K H ds r
end
theorem Same.seqT {K : PySem.W.Frag} {H H' : Hp} {a : Addr} {xs : List V} (e : Same H H') (h : SqT K H a xs) : SqT K H' a xs := by
  rcases h with (h | ⟨o, h⟩) | h
  · exact .inl (.inl (e _ _ h))
  · exact .inl (.inr ⟨o, e _ _ h⟩)
  · exact .inr h
theorem Same.rd {H H' : Hp} {a : Addr} {u : HO} (e : Same H H') (h : Rd H a u) : Rd H' a u := by
  rcases h with h | ⟨o, h⟩
  · exact .inl (e _ _ h)
  · exact .inr ⟨o, e _ _ h⟩
mutual
theorem DR.mono {K : PySem.W.Frag} {H H' : Hp} (e : Same H H') : ∀ (d : D) (v : V), DR K H d v → DR K H' d v
  | .non, v, h => h
  | .bl _, v, h => h
  | .int _, v, h => h
  | .str _, v, h => h
  | .ty _, v, h => h
  | .lst ds, v, h => by
    obtain ⟨a, vs, h1, h2, h3⟩ := h
    exact ⟨a, vs, h1, e.seq h2, DRs.mono e ds vs h3⟩
  | .tup ds, v, h => by
    obtain ⟨a, vs, h1, h2, h3⟩ := h
    exact ⟨a, vs, h1, Same.seqT e h2, DRs.mono e ds vs h3⟩
  | .dk ks ds, v, h => by
    obtain ⟨a, vs, h1, h2, h4, h3⟩ := h
    exact ⟨a, vs, h1, Same.rd e h2, h4, DRs.mono e ds vs h3⟩
  | .dt ks ds, v, h => by
    obtain ⟨a, vs, h1, h2, h4, h3⟩ := h
    exact ⟨a, vs, h1, Same.rd e h2, h4, DRs.mono e ds vs h3⟩
  | .obj cn ns ds, v, h => by
    obtain ⟨a, C, dx, vs, h1, hn, h2, h4, h3⟩ := h
    exact ⟨a, C, dx, vs, h1, hn, e _ _ h2, h4, DRs.mono e ds vs h3⟩
  | .ad _, v, h => h
  | .ptp ds, v, h => by
    obtain ⟨a, o, vs, h1, h2, h4, h3⟩ := h
    exact ⟨a, o, vs, h1, e _ _ h2, h4, DRs.mono e ds vs h3⟩
  | .etp ds, v, h => by
    obtain ⟨a, vs, h1, h2, h3⟩ := h
    exact ⟨a, vs, h1, e _ _ h2, DRs.mono e ds vs h3⟩
  | .exc a x ns ds, v, h => by
    obtain ⟨h1, vs, h2, h4, h3⟩ := h
    exact ⟨h1, vs, e _ _ h2, h4, DRs.mono e ds vs h3⟩
theorem DRs.mono {K : PySem.W.Frag} {H H' : Hp} (e : Same H H') : ∀ (ds : List D) (vs : List V), DRs K H ds vs → DRs K H' ds vs
  | [], vs, h => h
  | d :: ds, vs, h => by
    obtain ⟨v, r, h1, h2, h3⟩ := h
    exact ⟨v, r, h1, DR.mono e d v h2, DRs.mono e ds r h3⟩
end
theorem DRs.length {K : PySem.W.Frag} {H : Hp} : ∀ {ds : List D} {vs : List V}, DRs K H ds vs → ds.length = vs.length
  | [], vs, h => by cases (show vs = [] from h); rfl
  | d :: ds, vs, h => by
    obtain ⟨v, r, rfl, _, h3⟩ := h
    simp [DRs.length h3]
theorem DRs.get {K : PySem.W.Frag} {H : Hp} : ∀ {ds : List D} {vs : List V} {i : Nat} {d : D}, DRs K H ds vs → ds[i]? = some d → ∃ v, vs[i]? = some v ∧ DR K H d v
  | [], vs, i, d, h, e => by simp at e
  | d' :: ds, vs, 0, d, h, e => by
    obtain ⟨v, r, rfl, h2, h3⟩ := h
    simp at e
    subst e
    exact ⟨v, by simp, h2⟩
  | d' :: ds, vs, i + 1, d, h, e => by
    obtain ⟨v, r, rfl, h2, h3⟩ := h
    obtain ⟨w, h4, h5⟩ := DRs.get (i := i) (d := d) h3 (by simpa using e)
    exact ⟨w, by simpa using h4, h5⟩
theorem DRs.app {K : PySem.W.Frag} {H : Hp} : ∀ {ds es : List D} {vs ws : List V}, DRs K H ds vs → DRs K H es ws → DRs K H (ds ++ es) (vs ++ ws)
  | [], es, vs, ws, h, g => by cases (show vs = [] from h); exact g
  | d :: ds, es, vs, ws, h, g => by
    obtain ⟨v, r, rfl, h2, h3⟩ := h
    exact ⟨v, r ++ ws, rfl, h2, DRs.app h3 g⟩
theorem DRs.one {K : PySem.W.Frag} {H : Hp} {d : D} {v : V} (h : DR K H d v) : DRs K H [d] [v] := ⟨v, [], rfl, h, rfl⟩
theorem DRs.set {K : PySem.W.Frag} {H : Hp} {d : D} {v : V} (g : DR K H d v) : ∀ {ds : List D} {vs : List V} (i : Nat), DRs K H ds vs → DRs K H (ds.set i d) (vs.set i v)
  | [], vs, i, h => by cases (show vs = [] from h); exact rfl
  | d' :: ds, vs, 0, h => by
    obtain ⟨v', r, rfl, h2, h3⟩ := h
    exact ⟨v, r, rfl, g, h3⟩
  | d' :: ds, vs, i + 1, h => by
    obtain ⟨v', r, rfl, h2, h3⟩ := h
    exact ⟨v', r.set i v, rfl, h2, DRs.set g i h3⟩
theorem DRs.take {K : PySem.W.Frag} {H : Hp} : ∀ {ds : List D} {vs : List V} (n : Nat), DRs K H ds vs → DRs K H (ds.take n) (vs.take n)
  | ds, vs, 0, h => by simp [DRs]
  | [], vs, n + 1, h => by cases (show vs = [] from h); exact rfl
  | d :: ds, vs, n + 1, h => by
    obtain ⟨v, r, rfl, h2, h3⟩ := h
    exact ⟨v, r.take n, rfl, h2, DRs.take n h3⟩
theorem DRs.drop {K : PySem.W.Frag} {H : Hp} : ∀ {ds : List D} {vs : List V} (n : Nat), DRs K H ds vs → DRs K H (ds.drop n) (vs.drop n)
  | ds, vs, 0, h => by simpa using h
  | [], vs, n + 1, h => by cases (show vs = [] from h); exact rfl
  | d :: ds, vs, n + 1, h => by
    obtain ⟨v, r, rfl, h2, h3⟩ := h
    exact DRs.drop (ds := ds) (vs := r) n h3
theorem DRs.ints {K : PySem.W.Frag} {H : Hp} : ∀ {ns : List Int} {vs : List V}, DRs K H (ns.map D.int) vs → vs = ns.map V.int
  | [], vs, h => h
  | n :: ns, vs, h => by
    obtain ⟨v, r, rfl, h2, h3⟩ := h
    cases (show v = .int n from h2)
    rw [DRs.ints h3]; rfl
theorem DRs.ofInts {K : PySem.W.Frag} {H : Hp} : ∀ (ns : List Int), DRs K H (ns.map D.int) (ns.map V.int)
  | [] => rfl
  | n :: ns => ⟨.int n, ns.map V.int, rfl, rfl, DRs.ofInts ns⟩
theorem DRs.bls {K : PySem.W.Frag} {H : Hp} : ∀ {ns : List Bool} {vs : List V}, DRs K H (ns.map D.bl) vs → vs = ns.map V.bl
  | [], vs, h => h
  | n :: ns, vs, h => by
    obtain ⟨v, r, rfl, h2, h3⟩ := h
    cases (show v = .bl n from h2)
    rw [DRs.bls h3]; rfl
theorem DRs.strs {K : PySem.W.Frag} {H : Hp} : ∀ {ns : List Str} {vs : List V}, DRs K H (ns.map D.str) vs → vs = ns.map V.str
  | [], vs, h => h
  | n :: ns, vs, h => by
    obtain ⟨v, r, rfl, h2, h3⟩ := h
    cases (show v = .str n from h2)
    rw [DRs.strs h3]; rfl
/-- what may be nobody else's -/
def NT : HO → Prop
  | .tup _ => False
  | _ => True
structure JH (B0 B H0 H : Hp) : Prop where
  s0 : Same B0 H0
  sh : Same H0 H
  sB : Same B H
  fr : ∀ a o, B a = some o → NT o → B0 a = none → H0 a = none
theorem JH.refl {H0 H : Hp} (h : Same H0 H) : JH H0 H H0 H := ⟨Same.refl _, h, Same.refl _, fun _ _ _ _ h => h⟩
theorem JH.trans {B0 B H0 H G0 G : Hp} (a : JH B0 B H0 H) (b : JH H0 H G0 G) : JH B0 B G0 G :=
  ⟨a.s0.trans b.s0, b.sh, a.sB.trans b.sB, fun x o h n h' => b.fr x o (a.sB x o h) n (a.fr x o h n h')⟩
/-- a new thing that is shared at once -/
theorem JH.new {H0 H : Hp} {p : Addr} {o : HO} (h : Same H0 H) (n : H p = none) : JH H0 H (upd H0 p o) (upd H p o) := by
  have n0 : H0 p = none := h.free n
  refine ⟨fun b u e => ?_, fun b u e => ?_, fun b u e => ?_, fun a u e _ e' => ?_⟩
  · rw [upd_ne (ne_of_none e n0)]; exact e
  · by_cases hb : b = p
    · subst hb; rw [upd_same] at e ⊢; exact e
    · rw [upd_ne hb] at e ⊢; exact h b u e
  · rw [upd_ne (ne_of_none e n)]; exact e
  · rw [upd_ne (ne_of_none e n)]; exact e'
/-- a new thing that is nobody else's -/
theorem JH.own {H0 H : Hp} {p : Addr} {o : HO} (h : Same H0 H) (n : H p = none) : JH H0 H H0 (upd H p o) := by
  have n0 : H0 p = none := h.free n
  refine ⟨Same.refl _, fun b u e => ?_, fun b u e => ?_, fun a u e _ e' => e'⟩
  · rw [upd_ne (ne_of_none e n0)]; exact h b u e
  · rw [upd_ne (ne_of_none e n)]; exact e
/-- what is nobody else's: a list, a dict -/
inductive OC where
  | lst (ds : List D) | dk (ks : List Key) (ds : List D) | dt (ks : List (List Key)) (ds : List D)
  /-- .. while a loop walks it -/
  | fk (ks : List Key) (ds : List D) | ft (ks : List (List Key)) (ds : List D)
  /-- an instance of a class of the text -/
  | ins (cn : Str) (ns : List Str) (ds : List D)
def OCR (K : PySem.W.Frag) (H0 : Hp) : OC → HO → Prop
  | .lst ds, o => ∃ vs, o = .lst vs ∧ DRs K H0 ds vs
  | .dk ks ds, o => ∃ vs, o = .dK (ks.zip vs) ∧ ks.length = vs.length ∧ DRs K H0 ds vs
  | .dt ks ds, o => ∃ vs, o = .dT (ks.zip vs) ∧ ks.length = vs.length ∧ DRs K H0 ds vs
  | .fk ks ds, o => ∃ vs od, o = .frz od (.dK (ks.zip vs)) ∧ ks.length = vs.length ∧ DRs K H0 ds vs
  | .ft ks ds, o => ∃ vs od, o = .frz od (.dT (ks.zip vs)) ∧ ks.length = vs.length ∧ DRs K H0 ds vs
  | .ins cn ns ds, o => ∃ vs C dx, o = .ins C dx (ns.zip vs) ∧ PySem.W.nsIn K mainGlobals cn = some (some (.ref C)) ∧ ns.length = vs.length ∧ DRs K H0 ds vs
theorem OCR.nt {K : PySem.W.Frag} {H0 : Hp} : ∀ {c : OC} {o : HO}, OCR K H0 c o → NT o
  | .lst _, _, ⟨vs, h1, h2⟩ => by subst h1; trivial
  | .dk _ _, _, ⟨vs, h1, h3, h2⟩ => by subst h1; trivial
  | .dt _ _, _, ⟨vs, h1, h3, h2⟩ => by subst h1; trivial
  | .fk _ _, _, ⟨vs, od, h1, h3, h2⟩ => by subst h1; trivial
  | .ft _ _, _, ⟨vs, od, h1, h3, h2⟩ => by subst h1; trivial
  | .ins _ _ _, _, ⟨vs, C, dx, h1, hn, h3, h2⟩ => by subst h1; trivial
theorem OCR.mono {K : PySem.W.Frag} {H0 H0' : Hp} (e : Same H0 H0') : ∀ {c : OC} {o : HO}, OCR K H0 c o → OCR K H0' c o
  | .lst _, _, ⟨vs, h1, h2⟩ => ⟨vs, h1, DRs.mono e _ _ h2⟩
  | .dk _ _, _, ⟨vs, h1, h3, h2⟩ => ⟨vs, h1, h3, DRs.mono e _ _ h2⟩
  | .dt _ _, _, ⟨vs, h1, h3, h2⟩ => ⟨vs, h1, h3, DRs.mono e _ _ h2⟩
  | .fk _ _, _, ⟨vs, od, h1, h3, h2⟩ => ⟨vs, od, h1, h3, DRs.mono e _ _ h2⟩
  | .ft _ _, _, ⟨vs, od, h1, h3, h2⟩ => ⟨vs, od, h1, h3, DRs.mono e _ _ h2⟩
  | .ins _ _ _, _, ⟨vs, C, dx, h1, hn, h3, h2⟩ => ⟨vs, C, dx, h1, hn, h3, DRs.mono e _ _ h2⟩
def OC.d : OC → D
  | .lst ds => .lst ds
  | .dk ks ds => .dk ks ds
  | .dt ks ds => .dt ks ds
  | .fk ks ds => .dk ks ds
  | .ft ks ds => .dt ks ds
  | .ins cn ns ds => .obj cn ns ds
theorem OCR.dr {K : PySem.W.Frag} {H0 : Hp} {c : OC} {a : Addr} {o : HO} (n : H0 a = none) (h : OCR K H0 c o) : DR K (upd H0 a o) c.d (.ref a) := by
  have s0 : Same H0 (upd H0 a o) := fun b u e => by
    rw [upd_ne (fun z => by subst z; rw [n] at e; cases e)]; exact e
  cases c with
  | lst ds => obtain ⟨vs, rfl, r⟩ := h; exact ⟨a, vs, rfl, SqL.of upd_same, DRs.mono s0 _ _ r⟩
  | dk ks ds => obtain ⟨vs, rfl, l, r⟩ := h; exact ⟨a, vs, rfl, .inl upd_same, l, DRs.mono s0 _ _ r⟩
  | dt ks ds => obtain ⟨vs, rfl, l, r⟩ := h; exact ⟨a, vs, rfl, .inl upd_same, l, DRs.mono s0 _ _ r⟩
  | fk ks ds => obtain ⟨vs, od, rfl, l, r⟩ := h; exact ⟨a, vs, rfl, .inr ⟨od, upd_same⟩, l, DRs.mono s0 _ _ r⟩
  | ft ks ds => obtain ⟨vs, od, rfl, l, r⟩ := h; exact ⟨a, vs, rfl, .inr ⟨od, upd_same⟩, l, DRs.mono s0 _ _ r⟩
  | ins cn ns ds => obtain ⟨vs, C, dx, rfl, hn, l, r⟩ := h; exact ⟨a, C, dx, vs, rfl, hn, upd_same, l, DRs.mono s0 _ _ r⟩
inductive Sl where
  | no | sh (d : D) | ow (c : OC)
  /-- what is at d, and things of its own at places that are told -/
  | ox (cs : List (Addr × OC)) (d : D)
/-- a thing of its own stands at a place -/
structure CellR (K : PySem.W.Frag) (B H0 H : Hp) (a : Addr) (c : OC) : Prop where
  ex : ∃ o, H a = some o ∧ H0 a = none ∧ B a = none ∧ OCR K H0 c o
def SlR (K : PySem.W.Frag) (B H0 H : Hp) : Sl → Option V → Prop
  | .no, _ => True
  | .sh d, ov => ∃ v, ov = some v ∧ DR K H0 d v
  | .ow c, ov => ∃ a o, ov = some (.ref a) ∧ H a = some o ∧ H0 a = none ∧ B a = none ∧ OCR K H0 c o
  | .ox cs d, ov => (∃ v, ov = some v ∧ DR K H0 d v) ∧ (∀ p ∈ cs, CellR K B H0 H p.1 p.2) ∧ (cs.map (·.1)).Nodup
/-- the places of what a slot owns -/
def Owns : Sl → Option V → Addr → Prop
  | .ow _, ov, a => ov = some (.ref a)
  | .ox cs _, _, a => a ∈ cs.map (·.1)
  | _, _, _ => False
abbrev En := List Sl
structure J (K : PySem.W.Frag) (B0 B : Hp) (σ : St) (H0 H : Hp) (ρ : En) : Prop where
  hp : JH B0 B H0 H
  len : σ.length = ρ.length
  sl : ∀ (i : Nat) s ov, ρ[i]? = some s → σ[i]? = some ov → SlR K B H0 H s ov
  dis : ∀ (i j : Nat) s s' ov ov' a, ρ[i]? = some s → ρ[j]? = some s' → σ[i]? = some ov → σ[j]? = some ov' → Owns s ov a → Owns s' ov' a → i = j
section
variable {K : PySem.W.Frag} {B0 B H0 H H0' H' : Hp} {σ σ' : St} {ρ ρ' : En}
theorem J.get (j : J K B0 B σ H0 H ρ) {i : Nat} {s : Sl} (h : ρ[i]? = some s) : ∃ ov, σ[i]? = some ov ∧ SlR K B H0 H s ov := by
  have hi : i < σ.length := by
    have := (List.getElem?_eq_some_iff.mp h).1
    rw [j.len]; exact this
  exact ⟨σ[i], by simp [hi], j.sl i s σ[i] h (by simp [hi])⟩
theorem CellR.grow (g : JH H0 H H0' H') {a : Addr} {c : OC} (h : CellR K B H0 H a c) : CellR K B H0' H' a c := by
  obtain ⟨o, h2, h3, h4, h5⟩ := h
  exact ⟨o, g.sB _ _ h2, g.fr _ _ h2 h5.nt h3, h4, h5.mono g.s0⟩
theorem SlR.grow (g : JH H0 H H0' H') {s : Sl} {ov : Option V} (h : SlR K B H0 H s ov) : SlR K B H0' H' s ov := by
  cases s with
  | no => trivial
  | sh d => obtain ⟨v, h1, h2⟩ := h; exact ⟨v, h1, DR.mono g.s0 _ _ h2⟩
  | ow c => obtain ⟨a, o, h1, h2, h3, h4, h5⟩ := h; exact ⟨a, o, h1, g.sB _ _ h2, g.fr _ _ h2 h5.nt h3, h4, h5.mono g.s0⟩
  | ox cs d => obtain ⟨⟨v, h1, h2⟩, h3, h4⟩ := h; exact ⟨⟨v, h1, DR.mono g.s0 _ _ h2⟩, fun p hp => (h3 p hp).grow g, h4⟩
theorem J.grow (j : J K B0 B σ H0 H ρ) (g : JH H0 H H0' H') : J K B0 B σ H0' H' ρ :=
  ⟨j.hp.trans g, j.len, fun i s ov h1 h2 => (j.sl i s ov h1 h2).grow g, j.dis⟩
theorem J.same (j : J K B0 B σ H0 H ρ) : Same H0 H := j.hp.sh
theorem set_get {α : Type} {l : List α} {i j : Nat} {x y : α} (h : (l.set i x)[j]? = some y) : (j = i ∧ y = x ∧ i < l.length) ∨ (j ≠ i ∧ l[j]? = some y) := by
  by_cases e : i = j
  · subst e
    by_cases hl : i < l.length
    · rw [List.getElem?_set_self hl] at h
      exact .inl ⟨rfl, (Option.some.inj h).symm, hl⟩
    · rw [List.getElem?_eq_none (by simpa using hl)] at h; cases h
  · rw [List.getElem?_set_ne e] at h
    exact .inr ⟨fun z => e z.symm, h⟩
/-- what a slot owns is there, not shared, and new since the base -/
theorem J.own (j : J K B0 B σ H0 H ρ) {i : Nat} {s : Sl} {ov : Option V} {a : Addr} (h : ρ[i]? = some s) (hσ : σ[i]? = some ov) (w : Owns s ov a) : ∃ o, H a = some o ∧ H0 a = none ∧ B a = none := by
  have r := j.sl i s ov h hσ
  cases s with
  | no => cases w
  | sh d => cases w
  | ow c =>
    obtain ⟨b, o, e, h2, h3, h4, _⟩ := r
    cases e.symm.trans (show ov = _ from w)
    exact ⟨o, h2, h3, h4⟩
  | ox cs d =>
    obtain ⟨p, hp, rfl⟩ := List.mem_map.mp (show a ∈ cs.map (·.1) from w)
    obtain ⟨o, h2, h3, h4, _⟩ := (r.2.1 p hp).ex
    exact ⟨o, h2, h3, h4⟩
/-- a slot is changed: the heap stays; what it owns then it owned before -/
theorem J.setTo (j : J K B0 B σ H0 H ρ) {i : Nat} {s : Sl} {ov : Option V} (r : SlR K B H0 H s ov) (n : ∀ a, Owns s ov a → ∀ k s' ov', k ≠ i → ρ[k]? = some s' → σ[k]? = some ov' → ¬ Owns s' ov' a) : J K B0 B (σ.set i ov) H0 H (ρ.set i s) := by
  refine ⟨j.hp, by simp [j.len], fun k s1 ov1 h1 h2 => ?_, fun k l s1 s2 o1 o2 a h1 h2 h3 h4 w1 w2 => ?_⟩
  · rcases set_get h1 with ⟨rfl, rfl, _⟩ | ⟨ne, h1⟩
    · rcases set_get h2 with ⟨_, rfl, _⟩ | ⟨ne, _⟩
      · exact r
      · exact absurd rfl ne
    · rcases set_get h2 with ⟨e, _, _⟩ | ⟨_, h2⟩
      · exact absurd e ne
      · exact j.sl k s1 ov1 h1 h2
  · rcases set_get h1 with ⟨e1, q1, _⟩ | ⟨n1, g1⟩
    · rcases set_get h2 with ⟨e2, _, _⟩ | ⟨n2, g2⟩
      · rw [e1, e2]
      · rcases set_get h3 with ⟨_, q3, _⟩ | ⟨n3, _⟩
        · rw [q1, q3] at w1
          rw [List.getElem?_set_ne (Ne.symm n2)] at h4
          exact absurd w2 (n a w1 l s2 o2 n2 g2 h4)
        · exact absurd e1 n3
    · rcases set_get h2 with ⟨e2, q2, _⟩ | ⟨n2, g2⟩
      · rcases set_get h4 with ⟨_, q4, _⟩ | ⟨n4, _⟩
        · rw [q2, q4] at w2
          rw [List.getElem?_set_ne (Ne.symm n1)] at h3
          exact absurd w1 (n a w2 k s1 o1 n1 g1 h3)
        · exact absurd e2 n4
      · rw [List.getElem?_set_ne (Ne.symm n1)] at h3
        rw [List.getElem?_set_ne (Ne.symm n2)] at h4
        exact j.dis k l s1 s2 o1 o2 a g1 g2 h3 h4 w1 w2
/-- .. and its value too stays -/
theorem J.setSl (j : J K B0 B σ H0 H ρ) {i : Nat} {s : Sl} {ov : Option V} (hσ : σ[i]? = some ov) (r : SlR K B H0 H s ov) (n : ∀ a, Owns s ov a → ∀ k s' ov', k ≠ i → ρ[k]? = some s' → σ[k]? = some ov' → ¬ Owns s' ov' a) : J K B0 B σ H0 H (ρ.set i s) := by
  have q := j.setTo (i := i) r n
  have e : σ.set i ov = σ := by
    refine List.ext_getElem? fun k => ?_
    by_cases hk : i = k
    · subst hk
      rw [hσ, List.getElem?_set_self (List.getElem?_eq_some_iff.mp hσ).1]
    · rw [List.getElem?_set_ne hk]
  rwa [e] at q
theorem J.sub (j : J K B0 B σ H0 H ρ) {i : Nat} {s s0 : Sl} {ov : Option V} (h : ρ[i]? = some s0) (hσ : σ[i]? = some ov) (w : ∀ a, Owns s ov a → Owns s0 ov a) : ∀ a, Owns s ov a → ∀ k s' ov', k ≠ i → ρ[k]? = some s' → σ[k]? = some ov' → ¬ Owns s' ov' a :=
  fun a w1 k s' ov' ne h1 h2 w2 => ne (j.dis k i s' s0 ov' ov a h1 h h2 hσ w2 (w a w1))
theorem Owns.none {s : Sl} {ov : Option V} (h : s = .no ∨ ∃ d, s = .sh d) (a : Addr) : ¬ Owns s ov a := by
  rcases h with rfl | ⟨d, rfl⟩ <;> exact fun w => w
/-- a slot gets a value that is shared -/
theorem J.setSh (j : J K B0 B σ H0 H ρ) {i : Nat} {d : D} {v : V} (h : DR K H0 d v) : J K B0 B (σ.set i (some v)) H0 H (ρ.set i (.sh d)) :=
  j.setTo (s := .sh d) ⟨v, rfl, h⟩ fun a w => w.elim
/-- a slot is forgotten -/
theorem J.drop (j : J K B0 B σ H0 H ρ) (i : Nat) : J K B0 B σ H0 H (ρ.set i .no) := by
  by_cases hi : i < σ.length
  · exact j.setSl (s := .no) (ov := σ[i]) (by simp [hi]) True.intro fun a w => w.elim
  · have e : ρ.set i .no = ρ := List.set_eq_of_length_le (by rw [← j.len]; omega)
    rw [e]; exact j
/-- a slot gets a new thing of its own -/
theorem J.setOwn (j : J K B0 B σ H0 H ρ) {i : Nat} {c : OC} {a : Addr} {o : HO} (h : H a = some o) (h0 : H0 a = none) (hB : B a = none) (n : ∀ (k : Nat) s ov, k ≠ i → ρ[k]? = some s → σ[k]? = some ov → ¬ Owns s ov a) (r : OCR K H0 c o) :
    J K B0 B (σ.set i (some (.ref a))) H0 H (ρ.set i (.ow c)) :=
  j.setTo (s := .ow c) ⟨a, o, rfl, h, h0, hB, r⟩ fun b w k s' ov' ne h1 h2 w2 => by
    cases (show some (V.ref a) = some (.ref b) from w)
    exact n k s' ov' ne h1 h2 w2
theorem upd_keep {H : Hp} {a b : Addr} {o u : HO} (h : H b = some u) (n : b ≠ a) : upd H a o b = some u := by rw [upd_ne n]; exact h
theorem CellR.keep {a b : Addr} {c : OC} {o : HO} (h : CellR K B H0 H b c) (n : b ≠ a) : CellR K B H0 (upd H a o) b c := by
  obtain ⟨u, h1, h2⟩ := h
  exact ⟨u, upd_keep h1 n, h2⟩
/-- what slot i owns at a is changed -/
theorem J.writeAt (j : J K B0 B σ H0 H ρ) {i : Nat} {s s' : Sl} {ov : Option V} {a : Addr} {o : HO} (h : ρ[i]? = some s) (hσ : σ[i]? = some ov) (w : Owns s ov a) (ws : ∀ b, Owns s' ov b ↔ Owns s ov b) (r : SlR K B H0 (upd H a o) s' ov) : J K B0 B σ H0 (upd H a o) (ρ.set i s') := by
  obtain ⟨o', h1, h2, h3⟩ := j.own h hσ w
  have ne : ∀ b u, H0 b = some u → b ≠ a := fun b u e z => by subst z; rw [h2] at e; cases e
  have neB : ∀ b u, B b = some u → b ≠ a := fun b u e z => by subst z; rw [h3] at e; cases e
  refine ⟨⟨j.hp.s0, fun b u e => upd_keep (j.hp.sh b u e) (ne b u e), fun b u e => upd_keep (j.hp.sB b u e) (neB b u e), j.hp.fr⟩, by simp [j.len], fun k s1 ov1 g1 g2 => ?_, fun k l s1 s2 o1 o2 b g1 g2 g3 g4 w1 w2 => ?_⟩
  · rcases set_get g1 with ⟨rfl, rfl, _⟩ | ⟨nk, g1⟩
    · rw [hσ] at g2; cases g2
      exact r
    · have q := j.sl k s1 ov1 g1 g2
      have nb : ∀ b, Owns s1 ov1 b → b ≠ a := fun b w1 z => by
        subst z
        exact nk (j.dis k i s1 s ov1 ov b g1 h g2 hσ w1 w)
      cases s1 with
      | no => trivial
      | sh d => exact q
      | ow c2 =>
        obtain ⟨b, ob, f1, f2, f3, f4, f5⟩ := q
        exact ⟨b, ob, f1, upd_keep f2 (nb b f1), f3, f4, f5⟩
      | ox cs d =>
        obtain ⟨q1, q2, q3⟩ := q
        exact ⟨q1, fun p hp => (q2 p hp).keep (nb p.1 (List.mem_map.mpr ⟨p, hp, rfl⟩)), q3⟩
  · have p : ∀ {m : Nat} {s3 : Sl} {o3 : Option V}, (ρ.set i s')[m]? = some s3 → σ[m]? = some o3 → Owns s3 o3 b → ∃ s4, ρ[m]? = some s4 ∧ Owns s4 o3 b := fun {m s3 o3} g gσ w3 => by
      rcases set_get g with ⟨rfl, rfl, _⟩ | ⟨_, g⟩
      · rw [hσ] at gσ; cases gσ
        exact ⟨s, h, (ws b).mp w3⟩
      · exact ⟨s3, g, w3⟩
    obtain ⟨s5, f1, f2⟩ := p g1 g3 w1
    obtain ⟨s6, f3, f4⟩ := p g2 g4 w2
    exact j.dis k l s5 s6 o1 o2 b f1 f3 g3 g4 f2 f4
/-- what a slot owns is changed -/
theorem J.write (j : J K B0 B σ H0 H ρ) {i : Nat} {c c' : OC} {a : Addr} {o : HO} (h : ρ[i]? = some (.ow c)) (hσ : σ[i]? = some (some (.ref a))) (r : OCR K H0 c' o) : J K B0 B σ H0 (upd H a o) (ρ.set i (.ow c')) := by
  obtain ⟨o', h1, h2, h3⟩ := j.own h hσ (show Owns (.ow c) (some (.ref a)) a from rfl)
  exact j.writeAt h hσ rfl (fun b => Iff.rfl) ⟨a, o, rfl, upd_same, h2, h3, r⟩
/-- what a slot owns at a place is given to all -/
theorem J.shareAt (j : J K B0 B σ H0 H ρ) {i : Nat} {s : Sl} {ov : Option V} {a : Addr} {c : OC} {o : HO} (h : ρ[i]? = some s) (hσ : σ[i]? = some ov) (w : Owns s ov a) (h1 : H a = some o) (h4 : OCR K H0 c o) {s' : Sl}
    (ws : ∀ b, Owns s' ov b → Owns s ov b ∧ b ≠ a) (r : DR K (upd H0 a o) c.d (.ref a) → SlR K B (upd H0 a o) H s' ov) : J K B0 B σ (upd H0 a o) H (ρ.set i s') ∧ Same H0 (upd H0 a o) := by
  obtain ⟨o', h1', h2, h3⟩ := j.own h hσ w
  have ne : ∀ b u, H0 b = some u → b ≠ a := fun b u e z => by subst z; rw [h2] at e; cases e
  have s0 : Same H0 (upd H0 a o) := fun b u e => upd_keep e (ne b u e)
  have dr : DR K (upd H0 a o) c.d (.ref a) := by
    exact OCR.dr h2 h4
  refine ⟨⟨⟨j.hp.s0.trans s0, fun b u e => ?_, j.hp.sB, fun b u e nt e' => ?_⟩, by simp [j.len], fun k s1 ov1 g1 g2 => ?_, fun k l s1 s2 o1 o2 b g1 g2 g3 g4 w1 w2 => ?_⟩, s0⟩
  · by_cases hb : b = a
    · subst hb; rw [upd_same] at e; cases e; exact h1
    · rw [upd_ne hb] at e; exact j.hp.sh b u e
  · rw [upd_ne (fun z => by subst z; rw [h3] at e; cases e)]; exact j.hp.fr b u e nt e'
  · rcases set_get g1 with ⟨rfl, rfl, _⟩ | ⟨nk, g1⟩
    · rw [hσ] at g2; cases g2
      exact r dr
    · have q := j.sl k s1 ov1 g1 g2
      have nb : ∀ b, Owns s1 ov1 b → b ≠ a := fun b w1 z => by
        subst z
        exact nk (j.dis k i s1 s ov1 ov b g1 h g2 hσ w1 w)
      cases s1 with
      | no => trivial
      | sh d => obtain ⟨v, f1, f2⟩ := q; exact ⟨v, f1, DR.mono s0 _ _ f2⟩
      | ow c2 =>
        obtain ⟨b, ob, f1, f2, f3, f4, f5⟩ := q
        exact ⟨b, ob, f1, f2, by rw [upd_ne (nb b f1)]; exact f3, f4, f5.mono s0⟩
      | ox cs d =>
        obtain ⟨⟨v, f1, f2⟩, q2, q3⟩ := q
        refine ⟨⟨v, f1, DR.mono s0 _ _ f2⟩, fun p hp => ?_, q3⟩
        obtain ⟨ob, f2, f3, f4, f5⟩ := (q2 p hp).ex
        exact ⟨ob, f2, by rw [upd_ne (nb p.1 (List.mem_map.mpr ⟨p, hp, rfl⟩))]; exact f3, f4, f5.mono s0⟩
  · have p : ∀ {m : Nat} {s3 : Sl} {o3 : Option V}, (ρ.set i s')[m]? = some s3 → σ[m]? = some o3 → Owns s3 o3 b → ∃ s4, ρ[m]? = some s4 ∧ Owns s4 o3 b := fun {m s3 o3} g gσ w3 => by
      rcases set_get g with ⟨rfl, rfl, _⟩ | ⟨_, g⟩
      · rw [hσ] at gσ; cases gσ
        exact ⟨s, h, (ws b w3).1⟩
      · exact ⟨s3, g, w3⟩
    obtain ⟨s5, f1, f2⟩ := p g1 g3 w1
    obtain ⟨s6, f3, f4⟩ := p g2 g4 w2
    exact j.dis k l s5 s6 o1 o2 b f1 f3 g3 g4 f2 f4
/-- what a slot owns is given to all -/
theorem J.share (j : J K B0 B σ H0 H ρ) {i : Nat} {c : OC} (h : ρ[i]? = some (.ow c)) : ∃ H0', J K B0 B σ H0' H (ρ.set i (.sh c.d)) ∧ Same H0 H0' := by
  obtain ⟨ov, e1, a, o, e2, h1, h2, h3, h4⟩ := j.get h
  subst e2
  exact ⟨_, j.shareAt (s' := .sh c.d) h e1 rfl h1 h4 (fun b w => w.elim) fun r => ⟨_, rfl, r⟩⟩
/-- the shared part as it is now for a new base -/
theorem J.rebase (j : J K B0 B σ H0 H ρ) : J K H0 B σ H0 H ρ := ⟨⟨Same.refl _, j.hp.sh, j.hp.sB, fun _ _ _ _ h => h⟩, j.len, j.sl, j.dis⟩
theorem J.unbase (j : J K B0 B σ H0 H ρ) (j' : J K H0 B σ' H0' H' ρ') : J K B0 B σ' H0' H' ρ' :=
  ⟨⟨j.hp.s0.trans j'.hp.s0, j'.hp.sh, j'.hp.sB, fun a o h n h' => j'.hp.fr a o h n (j.hp.fr a o h n h')⟩, j'.len, j'.sl, j'.dis⟩
theorem CellR.new {a : Addr} {c : OC} {o : HO} (h : H a = some o) (h0 : H0 a = none) (hB : B a = none) (r : OCR K H0 c o) : CellR K B H0 H a c := ⟨o, h, h0, hB, r⟩
/-- the place of what a slot owns is told -/
theorem J.tell (j : J K B0 B σ H0 H ρ) {i : Nat} {c : OC} (h : ρ[i]? = some (.ow c)) : ∃ a, J K B0 B σ H0 H (ρ.set i (.ox [(a, c)] (.ad a))) := by
  obtain ⟨ov, e1, a, o, rfl, h1, h2, h3, h4⟩ := j.get h
  exact ⟨a, j.setSl (s := .ox [(a, c)] (.ad a)) e1 ⟨⟨_, rfl, rfl⟩, fun p hp => by rw [List.mem_singleton] at hp; subst hp; exact .new h1 h2 h3 h4, by simp⟩ (j.sub h e1 fun b w => by
    have e : b = a := by simpa [Owns] using w
    subst e; rfl)⟩
theorem J.cell (j : J K B0 B σ H0 H ρ) {i : Nat} {cs : List (Addr × OC)} {d : D} (h : ρ[i]? = some (.ox cs d)) {a : Addr} {c : OC} (m : (a, c) ∈ cs) : ∃ o, H a = some o ∧ H0 a = none ∧ B a = none ∧ OCR K H0 c o := by
  obtain ⟨ov, e1, h1, h2, h3⟩ := j.get h
  exact (h2 _ m).ex
/-- one of the places anew -/
def putC (cs : List (Addr × OC)) (a : Addr) (c : OC) : List (Addr × OC) := cs.map fun p => if p.1 = a then (a, c) else p
theorem putC_fst (cs : List (Addr × OC)) (a : Addr) (c : OC) : (putC cs a c).map (·.1) = cs.map (·.1) := by
  unfold putC
  rw [List.map_map]
  refine List.map_congr_left fun p _ => ?_
  show (if p.1 = a then (a, c) else p).1 = p.1
  split
  · rename_i h; exact h.symm
  · rfl
theorem J.put (j : J K B0 B σ H0 H ρ) {i : Nat} {cs : List (Addr × OC)} {d : D} (h : ρ[i]? = some (.ox cs d)) {a : Addr} {c c' : OC} {o : HO} (m : (a, c) ∈ cs) (r : OCR K H0 c' o) : J K B0 B σ H0 (upd H a o) (ρ.set i (.ox (putC cs a c') d)) := by
  obtain ⟨ov, e1, h1, h2, h3⟩ := j.get h
  obtain ⟨o', f1, f2, f3, f4⟩ := j.cell h m
  refine j.writeAt h e1 (List.mem_map.mpr ⟨_, m, rfl⟩) (fun b => by simp only [Owns, putC_fst]) ⟨h1, fun p hp => ?_, by rw [putC_fst]; exact h3⟩
  obtain ⟨q, hq, e⟩ := List.mem_map.mp hp
  by_cases hqa : q.1 = a
  · rw [if_pos hqa] at e
    subst e
    exact .new upd_same f2 f3 r
  · rw [if_neg hqa] at e
    subst e
    exact (h2 q hq).keep hqa
/-- a new thing more -/
theorem J.more (j : J K B0 B σ H0 H ρ) (g : JH H0 H H0' H') {i : Nat} {cs : List (Addr × OC)} {d : D} {a : Addr} {c : OC} {o : HO} (h : ρ[i]? = some (.ox cs d)) (h1 : H' a = some o) (h0 : H0' a = none) (n : H a = none) (r : OCR K H0' c o) : J K B0 B σ H0' H' (ρ.set i (.ox (cs ++ [(a, c)]) d)) := by
  obtain ⟨ov, e1, f1, f2, f3⟩ := (j.grow g).get h
  have nin : ∀ k s' ov', ρ[k]? = some s' → σ[k]? = some ov' → ¬ Owns s' ov' a := fun k s' ov' h1 h2 w => by
    obtain ⟨o, e, _⟩ := j.own h1 h2 w
    rw [n] at e; cases e
  have nm : a ∉ cs.map (·.1) := fun w => nin i _ ov h e1 w
  refine (j.grow g).setSl (s := .ox (cs ++ [(a, c)]) d) e1 ⟨f1, fun p hp => ?_, ?_⟩ fun b w k s' ov' ne g1 g2 w2 => ?_
  · rcases List.mem_append.mp hp with hp | hp
    · exact f2 p hp
    · rw [List.mem_singleton] at hp; subst hp
      exact .new h1 h0 (j.hp.sB.free n) r
  · rw [List.map_append, List.nodup_append]
    refine ⟨f3, by simp, fun x hx y hy => ?_⟩
    have : y = a := by simpa using hy
    subst this
    exact fun e => nm (e ▸ hx)
  · have w' : b ∈ cs.map (·.1) ∨ b = a := by
      have : b ∈ (cs ++ [(a, c)]).map (·.1) := w
      rw [List.map_append, List.mem_append] at this
      simpa using this
    rcases w' with w' | rfl
    · exact ne (j.dis k i s' _ ov' ov b g1 h g2 e1 w2 w')
    · exact nin k s' ov' g1 g2 w2
end
end DL
namespace DL
open PySem PySem.Spec L2
def RE (X : Cx) (e : Expr) : TE := fun σ H Q => ∃ t, PE X e t ∧ t σ H Q
def RT (X : Cx) (e : Expr) : TT := fun σ H Q => ∃ t, PT X e t ∧ t σ H Q
def RW (X : Cx) (e : Expr) : TT := fun σ H Q => ∃ t, PW X e t ∧ t σ H Q
def RA (X : Cx) (es : List Expr) : TA := fun σ H Q => ∃ t, PA X es t ∧ t σ H Q
def RS (X : Cx) (st : Stmt) : TS := fun D σ H => ∃ t, PS X st t ∧ t D σ H
def RSs (X : Cx) (sts : List Stmt) : TS := fun D σ H => ∃ t, PSs X sts t ∧ t D σ H
def RI (X : Cx) (tg iter : Expr) : TI := fun σ H R => ∃ t, PI X tg iter t ∧ t σ H R
def RG (X : Cx) (tg : Expr) : TG := fun v σ H Q => ∃ t, PG X tg t ∧ t v σ H Q
def RGs (X : Cx) (tg : List Expr) : TGs := fun vs σ H Q => ∃ t, PGs X tg t ∧ t vs σ H Q
section
variable {X : Cx}
theorem pe_star {e} : PE X e (RE X e) := ⟨fun pins s σ H Q I ⟨_, h, q⟩ => h.run pins s σ H Q I q⟩
theorem pt_star {e} : PT X e (RT X e) := ⟨fun pins s σ H Q I ⟨_, h, q⟩ => h.run pins s σ H Q I q⟩
theorem pw_star {e} : PW X e (RW X e) := ⟨fun wh pins s σ H Q I ⟨_, h, q⟩ => h.run wh pins s σ H Q I q⟩
theorem pa_star {es} : PA X es (RA X es) := ⟨fun pos pins s σ H Q I ⟨_, h, q⟩ => h.run pos pins s σ H Q I q⟩
theorem ps_star {st} : PS X st (RS X st) := ⟨fun pins s σ H D I ⟨_, h, q⟩ => h.run pins s σ H D I q⟩
theorem pss_star {st} : PSs X st (RSs X st) := ⟨fun pins s σ H D I ⟨_, h, q⟩ => h.run pins s σ H D I q⟩
theorem pi_star {tg it} : PI X tg it (RI X tg it) := ⟨fun pins s σ H R I ⟨_, h, q⟩ => h.run pins s σ H R I q⟩
theorem pg_star {tg} : PG X tg (RG X tg) := ⟨fun pins s σ H v u Q I r ⟨_, h, q⟩ => h.run pins s σ H v u Q I r q⟩
theorem pgs_star {tg} : PGs X tg (RGs X tg) := ⟨fun pins s σ H v u Q I r ⟨_, h, q⟩ => h.run pins s σ H v u Q I r q⟩
theorem RE.of {e t σ H Q} (h : PE X e t) (q : t σ H Q) : RE X e σ H Q := ⟨t, h, q⟩
theorem RT.of {e t σ H Q} (h : PT X e t) (q : t σ H Q) : RT X e σ H Q := ⟨t, h, q⟩
theorem RA.of {e t σ H Q} (h : PA X e t) (q : t σ H Q) : RA X e σ H Q := ⟨t, h, q⟩
end
def ED (X : Cx) (ρ : En) (e : Expr) (d : D) : Prop := ∀ B0 B σ H0 H (Q : VK), J X.K B0 B σ H0 H ρ → (∀ v H0' H', JH H0 H H0' H' → DR X.K H0' d v → Q v H') → RE X e σ H Q
/-- .. that is new and nobody else's -/
def EO (X : Cx) (ρ : En) (e : Expr) (c : OC) : Prop := ∀ B0 B σ H0 H (Q : VK), J X.K B0 B σ H0 H ρ → (∀ a o H0' H', JH H0 H H0' H' → H' a = some o → H0' a = none → H a = none → OCR X.K H0' c o → Q (.ref a) H') → RE X e σ H Q
def TD (X : Cx) (ρ : En) (e : Expr) (b : Bool) : Prop := ∀ B0 B σ H0 H (Q : Bool → Hp → Prop), J X.K B0 B σ H0 H ρ → (∀ H0' H', JH H0 H H0' H' → Q b H') → RT X e σ H Q
def TW (X : Cx) (ρ : En) (e : Expr) (b : Bool) : Prop := ∀ B0 B σ H0 H (Q : Bool → Hp → Prop), J X.K B0 B σ H0 H ρ → (∀ H0' H', JH H0 H H0' H' → Q b H') → RW X e σ H Q
def AD (X : Cx) (ρ : En) (es : List Expr) (ds : List D) : Prop := ∀ B0 B σ H0 H (Q : List V → Hp → Prop), J X.K B0 B σ H0 H ρ → (∀ vs H0' H', JH H0 H H0' H' → DRs X.K H0' ds vs → Q vs H') → RA X es σ H Q
/-- by values: a binary operation, a call of a built-in -/
def O2 (K : PySem.W.Frag) (r : R2) (d e f : D) : Prop := ∀ H0 H x y (Q : VK), Same H0 H → DR K H0 d x → DR K H0 e y → (∀ v H0' H', JH H0 H H0' H' → DR K H0' f v → Q v H') → r x y H Q
structure B2 (X : Cx) (op : Operator) (d e f : D) : Prop where
  ex : ∃ r, OpR X (binaryOp op) r ∧ O2 X.K r d e f
structure C2 (X : Cx) (op : CmpOp) (d e f : D) : Prop where
  ex : ∃ r, OpR X (compareOp op) r ∧ O2 X.K r d e f
structure BC (X : Cx) (f : Value) (ds : List D) (d : D) : Prop where
  ex : ∃ r, CallR X f r ∧ ∀ H0 H vs (Q : VK), Same H0 H → DRs X.K H0 ds vs → (∀ v H0' H', JH H0 H H0' H' → DR X.K H0' d v → Q v H') → r vs H Q
structure BO (X : Cx) (f : Value) (ds : List D) (c : OC) : Prop where
  ex : ∃ r, CallR X f r ∧ ∀ H0 H vs (Q : VK), Same H0 H → DRs X.K H0 ds vs → (∀ a o H0' H', JH H0 H H0' H' → H' a = some o → H0' a = none → H a = none → OCR X.K H0' c o → Q (.ref a) H') → r vs H Q
section
variable {X : Cx} {ρ : En} {e a b c : Expr} {d d1 d2 d3 : D} {pos : Pos}
theorem ED.eq {d' : D} (h : ED X ρ e d) (q : d = d') : ED X ρ e d' := q ▸ h
theorem TD.eq {k k' : Bool} (h : TD X ρ e k) (q : k = k') : TD X ρ e k' := q ▸ h
theorem EO.eq {c c' : OC} (h : EO X ρ e c) (q : c = c') : EO X ρ e c' := q ▸ h
theorem DR.own {K : PySem.W.Frag} {H0 : Hp} {c : OC} {a : Addr} {o : HO} (n : H0 a = none) (h : OCR K H0 c o) : DR K (upd H0 a o) c.d (.ref a) := OCR.dr n h
/-- .. and is given to all at once -/
theorem JH.give {H0 H H0' H' : Hp} {a : Addr} {o : HO} (g : JH H0 H H0' H') (h : H' a = some o) (h0 : H0' a = none) (n : H a = none) : JH H0 H (upd H0' a o) H' := by
  refine ⟨fun b u e => upd_keep (g.s0 b u e) (ne_of_none (g.s0 b u e) h0), fun b u e => ?_, g.sB, fun b u e nt e' => ?_⟩
  · by_cases hb : b = a
    · subst hb; rw [upd_same] at e; cases e; exact h
    · rw [upd_ne hb] at e; exact g.sh b u e
  · rw [upd_ne (ne_of_none e n)]; exact g.fr b u e nt e'
theorem ed_own {c : OC} (h : EO X ρ e c) : ED X ρ e c.d := fun B0 B σ H0 H Q j k =>
  h B0 B σ H0 H Q j fun a o H0' H' g h1 h2 h3 r => k _ (upd H0' a o) H' (g.give h1 h2 h3) (DR.own h2 r)
theorem ed_lst {ds : List D} (h : EO X ρ e (.lst ds)) : ED X ρ e (.lst ds) := ed_own h
theorem ed_var (i : Nat) {x : Str} (hρ : ρ[i]? = some (.sh d)) (hN : X.N[i]? = some x := by rfl) (hv : Vis X.env.scope x := by first | exact Or.inl rfl | exact Or.inr (Or.inl rfl) | exact Or.inr (Or.inr rfl)) (hd : (x == ("__debug__" : Str)) = false := by decide)
    (hcd : (x == ("__classdict__" : Str)) = false := by decide) : ED X ρ (.Name x pos) d := fun B0 B σ H0 H Q j k => by
  obtain ⟨ov, h1, v, rfl, h2⟩ := j.get hρ
  exact RE.of (pe_var hN hv hd hcd) ⟨v, h1, k v H0 H (JH.refl j.same) h2⟩
theorem ed_int {i j} : ED X ρ (.Constant (.int i) j pos) (.int i) := fun B0 B σ H0 H Q j k => RE.of pe_int (k _ H0 H (JH.refl j.same) rfl)
theorem ed_bl {i j} : ED X ρ (.Constant (.bool i) j pos) (.bl i) := fun B0 B σ H0 H Q j k => RE.of pe_bl (k _ H0 H (JH.refl j.same) rfl)
theorem ed_non {j} : ED X ρ (.Constant .none j pos) .non := fun B0 B σ H0 H Q j k => RE.of pe_non (k _ H0 H (JH.refl j.same) rfl)
theorem ed_str {i j} : ED X ρ (.Constant (.str i) j pos) (.str i) := fun B0 B σ H0 H Q j k => RE.of pe_str (k _ H0 H (JH.refl j.same) rfl)
theorem ed_bin {op : Operator} (ha : ED X ρ a d1) (hb : ED X ρ b d2) (ho : B2 X op d1 d2 d) : ED X ρ (.BinOp a op b pos) d := fun B0 B σ H0 H Q j k => by
  obtain ⟨r, h1, h2⟩ := ho
  refine RE.of (pe_op h1 pe_star pe_star) (ha B0 B σ H0 H _ j fun x G0 G g1 r1 => ?_)
  refine hb B0 B σ G0 G _ (j.grow g1) fun y L0 L g2 r2 => ?_
  exact h2 L0 L x y Q g2.sh (DR.mono g2.s0 _ _ r1) r2 fun v M0 M g3 r3 => k v M0 M ((g1.trans g2).trans g3) r3
theorem ed_cmp {op : CmpOp} (ha : ED X ρ a d1) (hb : ED X ρ b d2) (ho : C2 X op d1 d2 d) (hm : behindInMarks op b = false := by first | exact nomark _ | rfl) : ED X ρ (.Compare a [op] [b] pos) d := fun B0 B σ H0 H Q j k => by
  obtain ⟨r, h1, h2⟩ := ho
  refine RE.of (pe_cmpR h1 pe_star pe_star hm) (ha B0 B σ H0 H _ j fun x G0 G g1 r1 => ?_)
  refine hb B0 B σ G0 G _ (j.grow g1) fun y L0 L g2 r2 => ?_
  exact h2 L0 L x y Q g2.sh (DR.mono g2.s0 _ _ r1) r2 fun v M0 M g3 r3 => k v M0 M ((g1.trans g2).trans g3) r3
theorem td_cmp {op : CmpOp} {k : Bool} (ha : ED X ρ a d1) (hb : ED X ρ b d2) (ho : C2 X op d1 d2 (.bl k)) (hm : behindInMarks op b = false := by first | exact nomark _ | rfl) : TD X ρ (.Compare a [op] [b] pos) k := fun B0 B σ H0 H Q j kk => by
  obtain ⟨r, h1, h2⟩ := ho
  refine RT.of (pt_cmpR h1 pe_star pe_star hm) (ha B0 B σ H0 H _ j fun x G0 G g1 r1 => ?_)
  refine hb B0 B σ G0 G _ (j.grow g1) fun y L0 L g2 r2 => ?_
  refine h2 L0 L x y _ g2.sh (DR.mono g2.s0 _ _ r1) r2 fun v M0 M g3 r3 => ⟨k, r3, kk M0 M ((g1.trans g2).trans g3)⟩
theorem ed_chain {op op' : CmpOp} {k k' : Bool} (ha : ED X ρ a d1) (hb : ED X ρ b d2) (hc : ED X ρ c d3) (ho : C2 X op d1 d2 (.bl k)) (ho' : C2 X op' d2 d3 (.bl k')) (hm : lastMarks [op, op'] [b, c] = false := by with_unfolding_all rfl) :
    ED X ρ (.Compare a [op, op'] [b, c] pos) (.bl (k && k')) := fun B0 B σ H0 H Q j kk => by
  obtain ⟨r, h1, h2⟩ := ho
  obtain ⟨r', h1', h2'⟩ := ho'
  refine RE.of (pe_chain h1 h1' pe_star pe_star pe_star hm) (ha B0 B σ H0 H _ j fun x G0 G g1 r1 => ?_)
  refine hb B0 B σ G0 G _ (j.grow g1) fun y L0 L g2 r2 => ?_
  refine h2 L0 L x y _ g2.sh (DR.mono g2.s0 _ _ r1) r2 fun v M0 M g3 r3 => ⟨k, r3, ?_⟩
  cases k with
  | false => exact iteF (kk _ M0 M ((g1.trans g2).trans g3) rfl)
  | true =>
    refine iteT (hc B0 B σ M0 M _ (((j.grow g1).grow g2).grow g3) fun z N0 N g4 r4 => ?_)
    exact h2' N0 N y z Q g4.sh (DR.mono (g3.trans g4).s0 _ _ r2) r4 fun v P0 P g5 r5 => kk v P0 P (((g1.trans g2).trans (g3.trans g4)).trans g5) (by simpa using r5)
theorem td_chain {op op' : CmpOp} {k k' : Bool} (ha : ED X ρ a d1) (hb : ED X ρ b d2) (hc : ED X ρ c d3) (ho : C2 X op d1 d2 (.bl k)) (ho' : C2 X op' d2 d3 (.bl k')) (hm : lastMarks [op, op'] [b, c] = false := by with_unfolding_all rfl) :
    TD X ρ (.Compare a [op, op'] [b, c] pos) (k && k') := fun B0 B σ H0 H Q j kk => by
  obtain ⟨r, h1, h2⟩ := ho
  obtain ⟨r', h1', h2'⟩ := ho'
  refine RT.of (pt_chain h1 h1' pe_star pe_star pe_star hm) (ha B0 B σ H0 H _ j fun x G0 G g1 r1 => ?_)
  refine hb B0 B σ G0 G _ (j.grow g1) fun y L0 L g2 r2 => ?_
  refine h2 L0 L x y _ g2.sh (DR.mono g2.s0 _ _ r1) r2 fun v M0 M g3 r3 => ⟨k, r3, ?_⟩
  cases k with
  | false => exact iteF ⟨_, rfl, kk M0 M ((g1.trans g2).trans g3)⟩
  | true =>
    refine iteT (hc B0 B σ M0 M _ (((j.grow g1).grow g2).grow g3) fun z N0 N g4 r4 => ?_)
    exact h2' N0 N y z _ g4.sh (DR.mono (g3.trans g4).s0 _ _ r2) r4 fun v P0 P g5 r5 => ⟨k', r5, kk P0 P (((g1.trans g2).trans (g3.trans g4)).trans g5)⟩
theorem td_not {k : Bool} (h : TD X ρ a k) : TD X ρ (.UnaryOp .Not a pos) (!k) := fun B0 B σ H0 H Q j kk =>
  RT.of (pt_not pt_star) (h B0 B σ H0 H _ j fun H0' H' g => kk H0' H' g)
theorem tw_and1 {k : Bool} (h : TD X ρ a k) : TW X ρ (.BoolOp .And [a] pos) k := fun B0 B σ H0 H Q j kk => ⟨_, pw_and1 pt_star, h B0 B σ H0 H _ j kk⟩
theorem tw_or1 {k : Bool} (h : TD X ρ a k) : TW X ρ (.BoolOp .Or [a] pos) k := fun B0 B σ H0 H Q j kk => ⟨_, pw_or1 pt_star, h B0 B σ H0 H _ j kk⟩
theorem tw_and {k k' : Bool} {rest : List Expr} (h : TD X ρ a k) (h' : k = true → TW X ρ (.BoolOp .And (b :: rest) pos) k') : TW X ρ (.BoolOp .And (a :: b :: rest) pos) (k && k') := fun B0 B σ H0 H Q j kk => by
  refine ⟨_, pw_and pt_star pw_star, h B0 B σ H0 H _ j fun H0' H' g => ?_⟩
  cases k with
  | false => exact iteF (kk H0' H' g)
  | true => exact iteT (h' rfl B0 B σ H0' H' _ (j.grow g) fun G0 G g2 => kk G0 G (g.trans g2))
theorem tw_or {k k' : Bool} {rest : List Expr} (h : TD X ρ a k) (h' : k = false → TW X ρ (.BoolOp .Or (b :: rest) pos) k') : TW X ρ (.BoolOp .Or (a :: b :: rest) pos) (k || k') := fun B0 B σ H0 H Q j kk => by
  refine ⟨_, pw_or pt_star pw_star, h B0 B σ H0 H _ j fun H0' H' g => ?_⟩
  cases k with
  | true => exact iteT (kk H0' H' g)
  | false => exact iteF (h' rfl B0 B σ H0' H' _ (j.grow g) fun G0 G g2 => kk G0 G (g.trans g2))
theorem td_tw {k : Bool} (h : TW X ρ e k) : TD X ρ e k := fun B0 B σ H0 H Q j kk => by
  obtain ⟨t, h1, h2⟩ := h B0 B σ H0 H Q j kk
  exact ⟨t, h1.pt, h2⟩
/-- and, or as values -/
theorem ed_one {op} (h : ED X ρ a d) : ED X ρ (.BoolOp op [a] pos) d := fun B0 B σ H0 H Q j kk => RE.of (pe_one pe_star) (h B0 B σ H0 H _ j kk)
theorem ed_and {k k' : Bool} {rest : List Expr} (h : ED X ρ a (.bl k)) (h' : k = true → ED X ρ (.BoolOp .And (b :: rest) pos) (.bl k')) : ED X ρ (.BoolOp .And (a :: b :: rest) pos) (.bl (k && k')) := fun B0 B σ H0 H Q j kk => by
  refine RE.of (pe_and pe_star pe_star) (h B0 B σ H0 H _ j fun v H0' H' g r => ⟨k, r, ?_⟩)
  cases k with
  | false => exact iteF (kk _ H0' H' g rfl)
  | true => exact iteT (h' rfl B0 B σ H0' H' _ (j.grow g) fun v G0 G g2 r2 => kk v G0 G (g.trans g2) r2)
theorem ed_or {k k' : Bool} {rest : List Expr} (h : ED X ρ a (.bl k)) (h' : k = false → ED X ρ (.BoolOp .Or (b :: rest) pos) (.bl k')) : ED X ρ (.BoolOp .Or (a :: b :: rest) pos) (.bl (k || k')) := fun B0 B σ H0 H Q j kk => by
  refine RE.of (pe_or pe_star pe_star) (h B0 B σ H0 H _ j fun v H0' H' g r => ⟨k, r, ?_⟩)
  cases k with
  | true => exact iteT (kk _ H0' H' g rfl)
  | false => exact iteF (h' rfl B0 B σ H0' H' _ (j.grow g) fun v G0 G g2 r2 => kk v G0 G (g.trans g2) r2)
theorem ed_not {k : Bool} (h : ED X ρ a (.bl k)) : ED X ρ (.UnaryOp .Not a pos) (.bl (!k)) := fun B0 B σ H0 H Q j kk =>
  RE.of (pe_not pe_star) (h B0 B σ H0 H _ j fun v H0' H' g r => ⟨k, r, kk _ H0' H' g rfl⟩)
theorem ed_if {k : Bool} (h : TD X ρ c k) (h1 : k = true → ED X ρ a d) (h2 : k = false → ED X ρ b d) : ED X ρ (.IfExp c a b pos) d := fun B0 B σ H0 H Q j kk => by
  refine RE.of (pe_ifExp pt_star pe_star pe_star) (h B0 B σ H0 H _ j fun H0' H' g => ?_)
  cases k with
  | true => exact iteT (h1 rfl B0 B σ H0' H' _ (j.grow g) fun v G0 G g2 r2 => kk v G0 G (g.trans g2) r2)
  | false => exact iteF (h2 rfl B0 B σ H0' H' _ (j.grow g) fun v G0 G g2 r2 => kk v G0 G (g.trans g2) r2)
theorem ed_neg {i : Int} (h : ED X ρ a (.int i)) : ED X ρ (.UnaryOp .USub a pos) (.int (-i)) := fun B0 B σ H0 H Q j kk =>
  RE.of (pe_un un_neg pe_star) (h B0 B σ H0 H _ j fun v H0' H' g r => ⟨i, r, kk _ H0' H' g rfl⟩)
theorem ad_nil : AD X ρ [] [] := fun B0 B σ H0 H Q j k => RA.of pa_nil (k [] H0 H (JH.refl j.same) rfl)
theorem ad_cons {es : List Expr} {ds : List D} (h : ED X ρ e d) (r : AD X ρ es ds) (hs : starEach (e :: es) X.env = (false, eval e X.env) :: starEach es X.env := by rfl) : AD X ρ (e :: es) (d :: ds) := fun B0 B σ H0 H Q j k =>
  RA.of (pa_cons pe_star pa_star hs) (h B0 B σ H0 H _ j fun v G0 G g1 r1 => r B0 B σ G0 G _ (j.grow g1) fun vs L0 L g2 r2 => k (v :: vs) L0 L (g1.trans g2) ⟨v, vs, rfl, DR.mono g2.s0 _ _ r1, r2⟩)
theorem ed_tup {es : List Expr} {ds : List D} {x1} (h : AD X ρ es ds) (hl : ds.length ≤ sizeLine := by first | decide | (simp only [List.length_cons, List.length_nil]; decide)) : ED X ρ (.Tuple es x1 pos) (.tup ds) := fun B0 B σ H0 H Q j k =>
  RE.of (pe_tup pa_star) (h B0 B σ H0 H _ j fun vs G0 G g r => ⟨by rw [← r.length]; exact hl, fun p hp => by
    have g2 : JH G0 G (upd G0 p (.tup vs)) (upd G p (.tup vs)) := JH.new g.sh hp
    exact k _ _ _ (g.trans g2) ⟨p, vs, rfl, SqT.of upd_same, DRs.mono g2.s0 _ _ r⟩⟩)
theorem eo_lst {es : List Expr} {ds : List D} (h : AD X ρ es ds) (hl : ds.length ≤ sizeLine := by first | decide | (simp only [List.length_cons, List.length_nil]; decide)) : EO X ρ (.List es pos) (.lst ds) := fun B0 B σ H0 H Q j k =>
  RE.of (pe_lst pa_star) (h B0 B σ H0 H _ j fun vs G0 G g r => ⟨by rw [← r.length]; exact hl, fun p hp => by
    have g2 : JH G0 G G0 (upd G p (.lst vs)) := JH.own g.sh hp
    exact k p _ _ _ (g.trans g2) upd_same (g.sh.free hp) (g.sB.free hp) ⟨vs, rfl, r⟩⟩)
def spR (K : PySem.W.Frag) (R : List D → D → Prop) : Sp := fun vs H Q _ => ∃ H0 ds d, Same H0 H ∧ DRs K H0 ds vs ∧ R ds d ∧ ∀ r H0' H', JH H0 H H0' H' → DR K H0' d r → Q r H'
/-- a def of the program at hand -/
structure Fn (P : Program) (w : World) (K : PySem.W.Frag) (mg : Str → Option Value) (base : Heap) (x : Str) (k : Nat) (R : List D → D → Prop) : Prop where
  ex : ∃ f fd ps, FnOk P w K mg base CX0 k f fd ps (spR K R) ∧ mg x = some (.ref f) ∧ PySem.W.keepIn K (.ref f) = true ∧ Binds K fd ps []
theorem ed_call {x : Str} {k : Nat} {R : List D → D → Prop} {es : List Expr} {ds : List D} {p : Pos} (G : Fn X.prog X.w X.K X.mg X.base x k R) (hr : Room k X.A) (hg : Gl X x) (ha : AD X ρ (e :: es) ds) (hR : R ds d)
    (hdb : (x == ("__debug__" : Str)) = false := by decide) (he : starEach (e :: es) X.env = (false, eval e X.env) :: starEach es X.env := by rfl) (hpl : (backTo pos (starEach es X.env)).any (·.1) = false := by rfl) :
    ED X ρ (.Call (.Name x p) (e :: es) [] pos) d := fun B0 B σ H0 H Q j kk => by
  obtain ⟨f, fd, ps, F, hm, hk, hb⟩ := G.ex
  refine RE.of (pe_call (E := E0) F hr hg hm hk hb .nil pass0 pa_star hdb he hpl) (ha B0 B σ H0 H _ j fun vs G0 G g r => ?_)
  rw [List.append_nil]
  exact ⟨G0, ds, d, g.sh, r, hR, fun v L0 L g2 r2 => kk v L0 L (g.trans g2) r2⟩
theorem ed_callB {x : Str} {id : String} {es : List Expr} {ds : List D} {p : Pos} (hg : Gl X x) (hm : X.mg x = none) (hv : bootBuiltins x = some (.builtin id)) (ha : AD X ρ (e :: es) ds) (h : BC X (.builtin id) ds d) (hn : x ≠ "__name__" := by decide) (hdb : (x == ("__debug__" : Str)) = false := by decide)
    (he : starEach (e :: es) X.env = (false, eval e X.env) :: starEach es X.env := by rfl) (hpl : (backTo pos (starEach es X.env)).any (·.1) = false := by rfl) : ED X ρ (.Call (.Name x p) (e :: es) [] pos) d := fun B0 B σ H0 H Q j kk => by
  obtain ⟨r, h1, h2⟩ := h
  exact RE.of (pe_callB h1 hg hm hv pa_star hn hdb he hpl) (ha B0 B σ H0 H _ j fun vs G0 G g r => h2 G0 G vs Q g.sh r fun v L0 L g2 r2 => kk v L0 L (g.trans g2) r2)
theorem ed_callT {x : Str} {T : String} {es : List Expr} {ds : List D} {p : Pos} (hg : Gl X x) (hm : X.mg x = none) (hv : bootBuiltins x = some (.type T)) (ha : AD X ρ (e :: es) ds) (h : BC X (.type T) ds d) (hn : x ≠ "__name__" := by decide) (hdb : (x == ("__debug__" : Str)) = false := by decide)
    (he : starEach (e :: es) X.env = (false, eval e X.env) :: starEach es X.env := by rfl) (hpl : (backTo pos (starEach es X.env)).any (·.1) = false := by rfl) : ED X ρ (.Call (.Name x p) (e :: es) [] pos) d := fun B0 B σ H0 H Q j kk => by
  obtain ⟨r, h1, h2⟩ := h
  exact RE.of (pe_callTy h1 hg hm hv pa_star hn hdb he hpl) (ha B0 B σ H0 H _ j fun vs G0 G g r => h2 G0 G vs Q g.sh r fun v L0 L g2 r2 => kk v L0 L (g.trans g2) r2)
theorem eo_callT {x : Str} {T : String} {es : List Expr} {ds : List D} {c : OC} {p : Pos} (hg : Gl X x) (hm : X.mg x = none) (hv : bootBuiltins x = some (.type T)) (ha : AD X ρ (e :: es) ds) (h : BO X (.type T) ds c) (hn : x ≠ "__name__" := by decide) (hdb : (x == ("__debug__" : Str)) = false := by decide)
    (he : starEach (e :: es) X.env = (false, eval e X.env) :: starEach es X.env := by rfl) (hpl : (backTo pos (starEach es X.env)).any (·.1) = false := by rfl) : EO X ρ (.Call (.Name x p) (e :: es) [] pos) c := fun B0 B σ H0 H Q j kk => by
  obtain ⟨r, h1, h2⟩ := h
  exact RE.of (pe_callTy h1 hg hm hv pa_star hn hdb he hpl) (ha B0 B σ H0 H _ j fun vs G0 G g r => h2 G0 G vs Q g.sh r fun a o L0 L g2 h3 h4 h5 r2 => kk a o L0 L (g.trans g2) h3 h4 (g.sB.free h5) r2)
end
section
variable {X : Cx}
theorem o2_keep {K : PySem.W.Frag} {r : R2} {d e f : D} (v : V) (hv : ∀ H0 : Hp, DR K H0 f v) (h : ∀ H0 H x y (Q : VK), Same H0 H → DR K H0 d x → DR K H0 e y → Q v H → r x y H Q) : O2 K r d e f := fun H0 H x y Q s r1 r2 k =>
  h H0 H x y Q s r1 r2 (k v H0 H (JH.refl s) (hv H0))
theorem b2_add {i j : Int} : B2 X .Add (.int i) (.int j) (.int (i + j)) := ⟨_, op_add, o2_keep _ (fun _ => rfl) fun _ _ _ _ _ _ r1 r2 q => ⟨i, j, r1, r2, q⟩⟩
theorem b2_sub {i j : Int} : B2 X .Sub (.int i) (.int j) (.int (i - j)) := ⟨_, op_sub, o2_keep _ (fun _ => rfl) fun _ _ _ _ _ _ r1 r2 q => ⟨i, j, r1, r2, q⟩⟩
theorem b2_mul {i j : Int} (h : CMul i j) : B2 X .Mult (.int i) (.int j) (.int (i * j)) := ⟨_, op_mul, o2_keep _ (fun _ => rfl) fun _ _ _ _ _ _ r1 r2 q => ⟨i, j, r1, r2, h, q⟩⟩
theorem b2_fdiv {i j : Int} (h : CDiv i j) : B2 X .FloorDiv (.int i) (.int j) (.int (i / j)) := ⟨_, op_fdiv, o2_keep _ (fun _ => rfl) fun _ _ _ _ _ _ r1 r2 q => ⟨i, j, r1, r2, h, q⟩⟩
theorem b2_mod {i j : Int} (h : 0 < j) : B2 X .Mod (.int i) (.int j) (.int (i % j)) := ⟨_, op_mod, o2_keep _ (fun _ => rfl) fun _ _ _ _ _ _ r1 r2 q => ⟨i, j, r1, r2, h, q⟩⟩
theorem b2_pow {i j : Int} (h : CPow i j) : B2 X .Pow (.int i) (.int j) (.int (i ^ j.toNat)) := ⟨_, op_pow, o2_keep _ (fun _ => rfl) fun _ _ _ _ _ _ r1 r2 q => ⟨i, j, r1, r2, h, q⟩⟩
theorem b2_addS {i j : Str} (h : i.length + j.length ≤ sizeLine) : B2 X .Add (.str i) (.str j) (.str (i ++ j)) := ⟨_, op_add_str, o2_keep _ (fun _ => rfl) fun _ _ _ _ _ _ r1 r2 q => ⟨i, j, r1, r2, h, q⟩⟩
theorem c2_lt {i j : Int} : C2 X .Lt (.int i) (.int j) (.bl (decide (i < j))) := ⟨_, op_lt, o2_keep _ (fun _ => rfl) fun _ _ _ _ _ _ r1 r2 q => ⟨i, j, r1, r2, q⟩⟩
theorem c2_le {i j : Int} : C2 X .LtE (.int i) (.int j) (.bl (decide (i ≤ j))) := ⟨_, op_le, o2_keep _ (fun _ => rfl) fun _ _ _ _ _ _ r1 r2 q => ⟨i, j, r1, r2, q⟩⟩
theorem c2_gt {i j : Int} : C2 X .Gt (.int i) (.int j) (.bl (decide (j < i))) := ⟨_, op_gt, o2_keep _ (fun _ => rfl) fun _ _ _ _ _ _ r1 r2 q => ⟨i, j, r1, r2, q⟩⟩
theorem c2_ge {i j : Int} : C2 X .GtE (.int i) (.int j) (.bl (decide (j ≤ i))) := ⟨_, op_ge, o2_keep _ (fun _ => rfl) fun _ _ _ _ _ _ r1 r2 q => ⟨i, j, r1, r2, q⟩⟩
theorem c2_eqI {i j : Int} : C2 X .Eq (.int i) (.int j) (.bl (decide (i = j))) := ⟨_, op_eq, fun H0 H x y Q s r1 r2 k => by
  cases (show x = .int i from r1); cases (show y = .int j from r2)
  exact ⟨rfl, k _ H0 H (JH.refl s) (by simp [DR])⟩⟩
theorem c2_neI {i j : Int} : C2 X .NotEq (.int i) (.int j) (.bl (!decide (i = j))) := ⟨_, op_ne, fun H0 H x y Q s r1 r2 k => by
  cases (show x = .int i from r1); cases (show y = .int j from r2)
  exact ⟨rfl, k _ H0 H (JH.refl s) (by simp [DR])⟩⟩
theorem c2_eqS {i j : Str} : C2 X .Eq (.str i) (.str j) (.bl (decide (i = j))) := ⟨_, op_eq, fun H0 H x y Q s r1 r2 k => by
  cases (show x = .str i from r1); cases (show y = .str j from r2)
  exact ⟨rfl, k _ H0 H (JH.refl s) (by simp [DR])⟩⟩
theorem c2_neS {i j : Str} : C2 X .NotEq (.str i) (.str j) (.bl (!decide (i = j))) := ⟨_, op_ne, fun H0 H x y Q s r1 r2 k => by
  cases (show x = .str i from r1); cases (show y = .str j from r2)
  exact ⟨rfl, k _ H0 H (JH.refl s) (by simp [DR])⟩⟩
theorem c2_eqB {i j : Bool} : C2 X .Eq (.bl i) (.bl j) (.bl (decide (i = j))) := ⟨_, op_eq, fun H0 H x y Q s r1 r2 k => by
  cases (show x = .bl i from r1); cases (show y = .bl j from r2)
  exact ⟨rfl, k _ H0 H (JH.refl s) (by simp [DR])⟩⟩
theorem c2_neB {i j : Bool} : C2 X .NotEq (.bl i) (.bl j) (.bl (!decide (i = j))) := ⟨_, op_ne, fun H0 H x y Q s r1 r2 k => by
  cases (show x = .bl i from r1); cases (show y = .bl j from r2)
  exact ⟨rfl, k _ H0 H (JH.refl s) (by simp [DR])⟩⟩
theorem c2_isB {i j : Bool} : C2 X .Is (.bl i) (.bl j) (.bl (decide (i = j))) := ⟨_, op_isBl, o2_keep _ (fun _ => rfl) fun _ _ _ _ _ _ r1 r2 q => ⟨i, j, r1, r2, q⟩⟩
theorem c2_notB {i j : Bool} : C2 X .IsNot (.bl i) (.bl j) (.bl (!decide (i = j))) := ⟨_, op_notBl, o2_keep _ (fun _ => rfl) fun _ _ _ _ _ _ r1 r2 q => ⟨i, j, r1, r2, q⟩⟩
def isNon : D → Bool
  | .non => true
  | _ => false
theorem DR.non {K : PySem.W.Frag} {H : Hp} {d : D} {v : V} (h : DR K H d v) : decide (v = .non) = isNon d := by
  cases d with
  | non => cases (show v = .non from h); rfl
  | bl _ => cases (show v = .bl _ from h); rfl
  | int _ => cases (show v = .int _ from h); rfl
  | str _ => cases (show v = .str _ from h); rfl
  | ty _ => cases (show v = .ty _ from h); rfl
  | lst _ => obtain ⟨_, _, rfl, _⟩ := h; rfl
  | tup _ => obtain ⟨_, _, rfl, _⟩ := h; rfl
  | dk _ _ => obtain ⟨_, _, rfl, _⟩ := h; rfl
  | dt _ _ => obtain ⟨_, _, rfl, _⟩ := h; rfl
  | obj _ _ _ => obtain ⟨_, _, _, _, rfl, _⟩ := h; rfl
  | ad _ => cases (show v = .ref _ from h); rfl
  | ptp _ => obtain ⟨_, _, _, rfl, _⟩ := h; rfl
  | etp _ => obtain ⟨_, _, rfl, _⟩ := h; rfl
  | exc _ _ _ _ => obtain ⟨rfl, _⟩ := h; rfl
theorem c2_isN {d : D} : C2 X .Is d .non (.bl (isNon d)) := ⟨_, op_isN, fun H0 H x y Q s r1 r2 k => ⟨r2, k _ H0 H (JH.refl s) (by rw [r1.non]; rfl)⟩⟩
theorem c2_notN {d : D} : C2 X .IsNot d .non (.bl (!isNon d)) := ⟨_, op_notN, fun H0 H x y Q s r1 r2 k => ⟨r2, k _ H0 H (JH.refl s) (by rw [r1.non]; rfl)⟩⟩
mutual
def D.py : D → PyData
  | .non => .none
  | .bl b => .bool b
  | .int i => .int i
  | .str x => .str x
  | .lst ds => .list (D.pys ds)
  | .tup ds => .tuple (D.pys ds)
  | .dk _ _ => .none
  | .dt _ _ => .none
  | .obj _ _ _ => .none
  | .ad _ => .none
  | .ptp _ => .none
  | .etp _ => .none
  | .exc _ _ _ _ => .none
  | .ty _ => .none
def D.pys : List D → List PyData
  | [] => []
  | d :: ds => D.py d :: D.pys ds
end
mutual
def D.plain : D → Bool
  | .lst ds => D.plains ds
  | .tup ds => D.plains ds
  | .dk _ _ => false
  | .dt _ _ => false
  | .obj _ _ _ => false
  | .ad _ => false
  | .ptp _ => false
  | .etp _ => false
  | .exc _ _ _ _ => false
  | .ty _ => false
  | _ => true
def D.plains : List D → Bool
  | [] => true
  | d :: ds => D.plain d && D.plains ds
end
mutual
theorem DR.dp {K : PySem.W.Frag} {H : Hp} : ∀ (d : D) (v : V), d.plain = true → DR K H d v → Dp K H v d.py
  | .non, v, _, h => by cases (show v = .non from h); exact .non
  | .bl b, v, _, h => by cases (show v = .bl b from h); exact .bl b
  | .int b, v, _, h => by cases (show v = .int b from h); exact .int b
  | .str b, v, _, h => by cases (show v = .str b from h); exact .str b
  | .lst ds, v, p, h => by
    obtain ⟨a, vs, rfl, h2, h3⟩ := h
    exact .lst h2 (DRs.dp ds vs (by simpa [D.plain] using p) h3)
  | .tup ds, v, p, h => by
    obtain ⟨a, vs, rfl, h2, h3⟩ := h
    exact .tup h2 (DRs.dp ds vs (by simpa [D.plain] using p) h3)
  | .dk _ _, v, p, h => by simp [D.plain] at p
  | .dt _ _, v, p, h => by simp [D.plain] at p
  | .obj _ _ _, v, p, h => by simp [D.plain] at p
  | .ad _, v, p, h => by simp [D.plain] at p
  | .ptp _, v, p, h => by simp [D.plain] at p
  | .etp _, v, p, h => by simp [D.plain] at p
  | .exc _ _ _ _, v, p, h => by simp [D.plain] at p
  | .ty _, v, p, h => by simp [D.plain] at p
theorem DRs.dp {K : PySem.W.Frag} {H : Hp} : ∀ (ds : List D) (vs : List V), D.plains ds = true → DRs K H ds vs → DpAll K H vs (D.pys ds)
  | [], vs, _, h => by cases (show vs = [] from h); exact .nil
  | d :: ds, vs, p, h => by
    obtain ⟨v, r, rfl, h2, h3⟩ := h
    simp only [D.plains, Bool.and_eq_true] at p
    exact .cons (DR.dp d v p.1 h2) (DRs.dp ds r p.2 h3)
end
/-- data that == may be asked of -/
structure Cmp (d : D) : Prop where
  p : d.plain = true
  s : SeqAt.shaped d.py = true
theorem c2_eqD {d e : D} {k : Bool} (hu : X.A.units + 64 < cLine) (hd : Cmp d) (he : Cmp e) (h : PyData.eqv d.py e.py = k) : C2 X .Eq d e (.bl k) := ⟨_, op_eqD hu, fun H0 H x y Q s r1 r2 kk =>
  ⟨d.py, e.py, DR.dp _ _ hd.p (DR.mono s _ _ r1), DR.dp _ _ he.p (DR.mono s _ _ r2), hd.s, he.s, kk _ H0 H (JH.refl s) (by rw [h]; rfl)⟩⟩
theorem c2_neD {d e : D} {k : Bool} (hu : X.A.units + 64 < cLine) (hd : Cmp d) (he : Cmp e) (h : PyData.eqv d.py e.py = k) : C2 X .NotEq d e (.bl (!k)) := ⟨_, op_neD hu, fun H0 H x y Q s r1 r2 kk =>
  ⟨d.py, e.py, DR.dp _ _ hd.p (DR.mono s _ _ r1), DR.dp _ _ he.p (DR.mono s _ _ r2), hd.s, he.s, kk _ H0 H (JH.refl s) (by rw [h]; rfl)⟩⟩
theorem ix_t {ds : List D} {i : Int} {d : D} {ρ : En} {a b : Expr} {pos : Pos} (ha : ED X ρ a (.tup ds)) (hb : ED X ρ b (.int i)) (h : atI ds i = some d) (hs : PlainIx b := by exact fun _ _ => rfl) : ED X ρ (.Subscript a b pos) d := fun B0 B σ H0 H Q j kk => by
  refine RE.of (pe_ix ix_tup pe_star pe_star hs) (ha B0 B σ H0 H _ j fun x G0 G g1 r1 => hb B0 B σ G0 G _ (j.grow g1) fun y L0 L g2 r2 => ?_)
  obtain ⟨p, vs, rfl, h1, h2⟩ := DR.mono g2.s0 _ _ r1
  obtain ⟨k, e1, e2, _⟩ := atI_get h
  obtain ⟨v, h3, h4⟩ := DRs.get h2 e2
  have e4 : atI vs i = some v := by
    unfold atI at h ⊢
    rw [← DRs.length h2]
    cases q : ixN ds.length i with
    | none => rw [q] at h; cases h
    | some m =>
      rw [q] at h
      obtain ⟨v', h5, h6⟩ := DRs.get h2 (show ds[m]? = some d from h)
      show vs[m]? = some v
      have := (ixN_seq q).1
      rw [e1] at this
      cases this
      exact h3
  exact ⟨p, vs, i, v, rfl, r2, Same.seqT g2.sh h1, e4, kk v L0 L (g1.trans g2) h4⟩
theorem ix_l {ds : List D} {i : Int} {d : D} {ρ : En} {a b : Expr} {pos : Pos} (ha : ED X ρ a (.lst ds)) (hb : ED X ρ b (.int i)) (h : atI ds i = some d) (hs : PlainIx b := by exact fun _ _ => rfl) : ED X ρ (.Subscript a b pos) d := fun B0 B σ H0 H Q j kk => by
  refine RE.of (pe_ix ix_list pe_star pe_star hs) (ha B0 B σ H0 H _ j fun x G0 G g1 r1 => hb B0 B σ G0 G _ (j.grow g1) fun y L0 L g2 r2 => ?_)
  obtain ⟨p, vs, rfl, h1, h2⟩ := DR.mono g2.s0 _ _ r1
  obtain ⟨k, e1, e2, _⟩ := atI_get h
  obtain ⟨v, h3, h4⟩ := DRs.get h2 e2
  have e4 : atI vs i = some v := by
    unfold atI at h ⊢
    rw [← DRs.length h2]
    cases q : ixN ds.length i with
    | none => rw [q] at h; cases h
    | some m =>
      rw [q] at h
      show vs[m]? = some v
      have := (ixN_seq q).1
      rw [e1] at this
      cases this
      exact h3
  exact ⟨p, vs, i, v, rfl, r2, g2.sh.seq h1, e4, kk v L0 L (g1.trans g2) h4⟩
theorem bc_keep {f : Value} {ds : List D} {d : D} {r : List V → Hp → VK → Prop} (c : CallR X f r) (v : V) (hv : ∀ H0 : Hp, DR X.K H0 d v) (h : ∀ H0 H vs (Q : VK), Same H0 H → DRs X.K H0 ds vs → Q v H → r vs H Q) : BC X f ds d :=
  ⟨r, c, fun H0 H vs Q s r1 k => h H0 H vs Q s r1 (k v H0 H (JH.refl s) (hv H0))⟩
theorem DRs.two {K : PySem.W.Frag} {H : Hp} {d e : D} {vs : List V} (h : DRs K H [d, e] vs) : ∃ x y, vs = [x, y] ∧ DR K H d x ∧ DR K H e y := by
  obtain ⟨x, r, rfl, h1, h2⟩ := h
  obtain ⟨y, r, rfl, h3, h4⟩ := h2
  cases (show r = [] from h4)
  exact ⟨x, y, rfl, h1, h3⟩
theorem DRs.one' {K : PySem.W.Frag} {H : Hp} {d : D} {vs : List V} (h : DRs K H [d] vs) : ∃ x, vs = [x] ∧ DR K H d x := by
  obtain ⟨x, r, rfl, h1, h2⟩ := h
  cases (show r = [] from h2)
  exact ⟨x, rfl, h1⟩
theorem bc_int {i : Int} : BC X (.type "int") [.int i] (.int i) := bc_keep call_int1 _ (fun _ => rfl) fun _ _ vs _ _ r q => by
  obtain ⟨x, rfl, h⟩ := r.one'
  cases (show x = .int i from h)
  exact .inl ⟨i, rfl, q⟩
theorem bc_min2 {i j : Int} (hc : X.calm = true) : BC X (.builtin "min") [.int i, .int j] (.int (min i j)) := bc_keep (call_min2 hc) _ (fun _ => rfl) fun _ _ vs _ _ r q => by
  obtain ⟨x, y, rfl, h, h'⟩ := r.two
  cases (show x = .int i from h); cases (show y = .int j from h')
  have e : min i j = (if j < i then j else i) := by split <;> omega
  exact ⟨i, j, rfl, by rw [← e]; exact q⟩
theorem bc_max2 {i j : Int} (hc : X.calm = true) : BC X (.builtin "max") [.int i, .int j] (.int (max i j)) := bc_keep (call_max2 hc) _ (fun _ => rfl) fun _ _ vs _ _ r q => by
  obtain ⟨x, y, rfl, h, h'⟩ := r.two
  cases (show x = .int i from h); cases (show y = .int j from h')
  have e : max i j = (if j > i then j else i) := by split <;> omega
  exact ⟨i, j, rfl, by rw [← e]; exact q⟩
theorem bc_lenL {ds : List D} : BC X (.builtin "len") [.lst ds] (.int ds.length) := bc_keep call_len_seq _ (fun _ => rfl) fun _ _ vs _ s r q => by
  obtain ⟨x, rfl, a, ys, rfl, h1, h2⟩ := r.one'
  exact ⟨a, ys, rfl, .inl (s.seq h1), by rw [← DRs.length h2]; exact q⟩
theorem bc_lenT {ds : List D} : BC X (.builtin "len") [.tup ds] (.int ds.length) := bc_keep call_len_seq _ (fun _ => rfl) fun _ _ vs _ s r q => by
  obtain ⟨x, rfl, a, ys, rfl, h1, h2⟩ := r.one'
  exact ⟨a, ys, rfl, .inr (Same.seqT s h1), by rw [← DRs.length h2]; exact q⟩
theorem bc_lenS {z : Str} (h : z.length ≤ sizeLine) : BC X (.builtin "len") [.str z] (.int z.length) := bc_keep call_len_str _ (fun _ => rfl) fun _ _ vs _ s r q => by
  obtain ⟨x, rfl, h1⟩ := r.one'
  exact ⟨z, by rw [show x = .str z from h1], h, q⟩
theorem bc_tupL {ds : List D} : BC X (.type "tuple") [.lst ds] (.tup ds) := ⟨_, call_tuple_of, fun H0 H vs Q s r k => by
  obtain ⟨x, rfl, a, ys, rfl, h1, h2⟩ := r.one'
  exact ⟨a, ys, rfl, .inl ⟨s.seq h1, fun l hl => k _ (upd H0 l (.tup ys)) _ (JH.new s hl) ⟨l, ys, rfl, SqT.of upd_same, DRs.mono (JH.new s hl).s0 _ _ h2⟩⟩⟩⟩
theorem bc_tupT {ds : List D} : BC X (.type "tuple") [.tup ds] (.tup ds) := ⟨_, call_tuple_of, fun H0 H vs Q s r k => by
  obtain ⟨x, rfl, a, ys, rfl, h1, h2⟩ := r.one'
  exact ⟨a, ys, rfl, .inr ⟨Same.seqT s h1, k _ H0 H (JH.refl s) ⟨a, ys, rfl, h1, h2⟩⟩⟩⟩
theorem bo_listL {ds : List D} : BO X (.type "list") [.lst ds] (.lst ds) := ⟨_, call_list_of, fun H0 H vs Q s r k => by
  obtain ⟨x, rfl, a, ys, rfl, h1, h2⟩ := r.one'
  exact ⟨a, ys, rfl, .inl (s.seq h1), fun l hl => k l _ _ _ (JH.own s hl) upd_same (s.free hl) hl ⟨ys, rfl, h2⟩⟩⟩
theorem bo_listT {ds : List D} : BO X (.type "list") [.tup ds] (.lst ds) := ⟨_, call_list_of, fun H0 H vs Q s r k => by
  obtain ⟨x, rfl, a, ys, rfl, h1, h2⟩ := r.one'
  exact ⟨a, ys, rfl, .inr (Same.seqT s h1), fun l hl => k l _ _ _ (JH.own s hl) upd_same (s.free hl) hl ⟨ys, rfl, h2⟩⟩⟩
theorem bc_all {bs : List Bool} (hc : X.calm = true) : BC X (.builtin "all") [.lst (bs.map D.bl)] (.bl (bs.all id)) := bc_keep (cr_all hc) _ (fun _ => rfl) fun _ _ vs _ s r q => by
  obtain ⟨x, rfl, a, ys, rfl, h1, h2⟩ := r.one'
  rw [DRs.bls h2] at h1
  exact ⟨a, bs, rfl, s.seq h1, q⟩
end
end DL
namespace DL
open PySem PySem.Spec L2
def DG (X : Cx) (is : List Nat) (tg : Expr) (d : D) (ρ ρ' : En) : Prop := ∀ B0 B σ H0 H v (Q : St → Hp → Prop), J X.K B0 B σ H0 H ρ → DR X.K H0 d v → (∀ σ', J X.K B0 B σ' H0 H ρ' → (∀ k, k ∉ is → σ'[k]? = σ[k]?) → Q σ' H) → RG X tg v σ H Q
def DGs (X : Cx) (is : List Nat) (ts : List Expr) (ds : List D) (ρ ρ' : En) : Prop := ∀ B0 B σ H0 H vs (Q : St → Hp → Prop), J X.K B0 B σ H0 H ρ → DRs X.K H0 ds vs → (∀ σ', J X.K B0 B σ' H0 H ρ' → (∀ k, k ∉ is → σ'[k]? = σ[k]?) → Q σ' H) → RGs X ts vs σ H Q
section
variable {X : Cx} {ρ ρ' ρ2 : En} {e a b c : Expr} {d d1 d2 d3 : D} {pos : Pos}
theorem dg_name (i : Nat) {x : Str} (hN : X.N.Nodup) (hi : X.N[i]? = some x := by rfl) (hx : Loc X.env.scope x := by first | exact Or.inl rfl | exact Or.inr rfl) (hf : X.fn x = true ∨ X.env.scope.names.lookup x = some .local := by first | exact .inl rfl | exact .inr rfl) :
    DG X [i] (.Name x pos) d ρ (ρ.set i (.sh d)) := fun B0 B σ H0 H v Q j r k => by
  refine ⟨_, pg_name hN hi hx hf, k _ (j.setSh r) fun m hm => ?_⟩
  rw [List.getElem?_set_ne (fun e => hm (by simp [e]))]
theorem dgs_nil : DGs X [] [] [] ρ ρ := fun B0 B σ H0 H vs Q j r k => by
  cases (show vs = [] from r)
  exact ⟨_, pgs_nil, rfl, k σ j fun _ _ => rfl⟩
theorem dgs_cons {is is' : List Nat} {es : List Expr} {ds : List D} (h : DG X is e d ρ ρ') (r : DGs X is' es ds ρ' ρ2) (hs : (assignEach (e :: es) X.env).map (·.2) = assign e X.env :: (assignEach es X.env).map (·.2) := by rfl) :
    DGs X (is ++ is') (e :: es) (d :: ds) ρ ρ2 := fun B0 B σ H0 H vs Q j rr k => by
  obtain ⟨v, ws, rfl, r1, r2⟩ := rr
  refine ⟨_, pgs_cons pg_star pgs_star hs, v, ws, rfl, h B0 B σ H0 H v _ j r1 fun σ1 j1 k1 => r B0 B σ1 H0 H ws _ j1 r2 fun σ2 j2 k2 => k σ2 j2 fun m hm => ?_⟩
  rw [k2 m (fun z => hm (by simp [z])), k1 m (fun z => hm (by simp [z]))]
theorem dg_tup {is : List Nat} {es : List Expr} {ds : List D} {k1 : Nat} {n : Nat} (hc : X.calm = true) (h : DGs X is es ds ρ ρ') (hl : ds.length = n := by rfl) (hn : (assignEach es X.env).length = n := by rfl) (hst : (assignEach es X.env).findIdx? (·.1) = none := by rfl) :
    DG X is (.Tuple es k1 pos) (.tup ds) ρ ρ' := fun B0 B σ H0 H v Q j r k => by
  obtain ⟨p, vs, rfl, h1, h2⟩ := r
  exact ⟨_, pg_tup hc pgs_star hn hst, p, vs, rfl, Same.seqT j.same h1, by rw [← DRs.length h2]; exact hl, h B0 B σ H0 H vs Q j h2 k⟩
def DWalk (K : PySem.W.Frag) (Jt : It) (H0 : Hp) (ds : List D) : Prop := ∃ G Y, Walk Jt ds.length G Y ∧ (∀ H1 H, Same H0 H1 → Same H1 H → G H) ∧
  ∀ i H1 H x H' d, ds[i]? = some d → Same H0 H1 → Same H1 H → Y i H x H' → ∃ H1', JH H1 H H1' H' ∧ DR K H1' d x
def ID (X : Cx) (ρ : En) (tg iter : Expr) (ds : List D) : Prop := ∀ B0 B σ H0 H R, J X.K B0 B σ H0 H ρ → (∀ Jt H0' H', JH H0 H H0' H' → DWalk X.K Jt H0' ds → R Jt H') → RI X tg iter σ H R
theorem dw_list {K : PySem.W.Frag} {H0 : Hp} {p : Addr} {vs : List V} {ds : List D} (h : SqL K H0 p vs) (r : DRs K H0 ds vs) : DWalk K (Itl K p) H0 ds := by
  refine ⟨_, _, (by rw [DRs.length r]; exact walk_list (xs := vs)), fun H1 H s1 s2 => (s1.trans s2).seq h, fun i H1 H x H' d hd s1 s2 y => ?_⟩
  obtain ⟨rfl, hx⟩ := y
  obtain ⟨v, h1, h2⟩ := DRs.get r hd
  rw [hx] at h1; cases h1
  exact ⟨H1, JH.refl s2, DR.mono s1 _ _ h2⟩
theorem dw_tup {K : PySem.W.Frag} {H0 : Hp} {p : Addr} {vs : List V} {ds : List D} (h : SqT K H0 p vs) (r : DRs K H0 ds vs) : DWalk K (Itt K p) H0 ds := by
  refine ⟨_, _, (by rw [DRs.length r]; exact walk_tup (xs := vs)), fun H1 H s1 s2 => Same.seqT (s1.trans s2) h, fun i H1 H x H' d hd s1 s2 y => ?_⟩
  obtain ⟨rfl, hx⟩ := y
  obtain ⟨v, h1, h2⟩ := DRs.get r hd
  rw [hx] at h1; cases h1
  exact ⟨H1, JH.refl s2, DR.mono s1 _ _ h2⟩
/-- lo, lo + 1, .. -/
def rngD (lo : Int) (n : Nat) : List D := (List.range n).map fun (i : Nat) => D.int (lo + (i : Int))
theorem rngD_len (lo : Int) (n : Nat) : (rngD lo n).length = n := by simp [rngD]
theorem rngD_get {lo : Int} {n i : Nat} {d : D} (h : (rngD lo n)[i]? = some d) : i < n ∧ d = .int (lo + i) := by
  have hi : i < n := by have := (List.getElem?_eq_some_iff.mp h).1; rwa [rngD_len] at this
  refine ⟨hi, ?_⟩
  simp [rngD, List.getElem?_map, List.getElem?_range hi] at h
  exact h.symm
theorem dw_range {K : PySem.W.Frag} {H0 : Hp} {lo : Int} {n : Nat} : DWalk K (Itr lo n) H0 (rngD lo n) := by
  refine ⟨_, _, (by rw [rngD_len]; exact walk_range), fun _ _ _ _ => trivial, fun i H1 H x H' d hd s1 s2 y => ?_⟩
  obtain ⟨rfl, rfl⟩ := y
  obtain ⟨_, rfl⟩ := rngD_get hd
  exact ⟨H1, JH.refl s2, rfl⟩
theorem id_list {ds : List D} {tg : Expr} (h : ED X ρ e (.lst ds)) : ID X ρ tg e ds := fun B0 B σ H0 H R j k =>
  ⟨_, pi_list pe_star, h B0 B σ H0 H _ j fun v G0 G g r => by
    obtain ⟨p, vs, rfl, h1, h2⟩ := r
    exact ⟨p, rfl, ⟨vs, g.sh.seq h1⟩, k _ G0 G g (dw_list h1 h2)⟩⟩
theorem id_tup {ds : List D} {tg : Expr} (h : ED X ρ e (.tup ds)) : ID X ρ tg e ds := fun B0 B σ H0 H R j k =>
  ⟨_, pi_tup pe_star, h B0 B σ H0 H _ j fun v G0 G g r => by
    obtain ⟨p, vs, rfl, h1, h2⟩ := r
    exact ⟨p, rfl, ⟨vs, Same.seqT g.sh h1⟩, k _ G0 G g (dw_tup h1 h2)⟩⟩
theorem id_range1 {tg : Expr} {p : Pos} {i : Int} (hg : Gl X "range") (hm : X.mg "range" = none) (ha : ED X ρ a (.int i)) (hb : -(2 ^ 62) ≤ i ∧ i < 2 ^ 62) (hs : starEach [a] X.env = [(false, eval a X.env)] := by rfl) (hs2 : starEach [a] X.env = (false, eval a X.env) :: starEach [] X.env := by rfl) :
    ID X ρ tg (.Call (.Name "range" p) [a] [] pos) (rngD 0 i.toNat) := fun B0 B σ H0 H R j k =>
  ⟨_, pi_range1 hg hm pa_star hs, ad_cons (X := X) ha ad_nil hs2 B0 B σ H0 H _ j fun vs G0 G g r => by
    obtain ⟨x, rfl, h⟩ := r.one'
    cases (show x = .int i from h)
    exact ⟨i, rfl, hb.1, hb.2, k _ G0 G g dw_range⟩⟩
def wipeE (ρ : En) : List Nat → En
  | [] => ρ
  | v :: vs => (wipeE ρ vs).set v .no
theorem J.setNo {K : PySem.W.Frag} {B0 B H0 H : Hp} {σ : St} {ρ : En} (j : J K B0 B σ H0 H ρ) (i : Nat) : J K B0 B (σ.set i none) H0 H (ρ.set i .no) := j.setTo (s := .no) True.intro fun a w => w.elim
theorem J.wipe {K : PySem.W.Frag} {B0 B H0 H : Hp} {σ : St} {ρ : En} (j : J K B0 B σ H0 H ρ) : ∀ vs : List Nat, J K B0 B (wipe σ vs) H0 H (wipeE ρ vs)
  | [] => j
  | v :: vs => (J.wipe j vs).setNo v
theorem wipe_at {σ : St} {i : Nat} : ∀ {vs : List Nat}, i ∈ vs → i < σ.length → (wipe σ vs)[i]? = some none
  | v :: vs, h, hl => by
    unfold wipe
    by_cases e : v = i
    · subst e
      rw [List.getElem?_set_self (by rw [wipe_length]; exact hl)]
    · rw [List.getElem?_set_ne e]
      exact wipe_at (by simpa [Ne.symm e] using h) hl
theorem wipe_back {σ σ2 : St} {vs : List Nat} (hl : σ2.length = σ.length) (h : ∀ k, k ∉ vs → σ2[k]? = (wipe σ vs)[k]?) : wipe σ2 vs = wipe σ vs := by
  refine List.ext_getElem? fun k => ?_
  by_cases hk : k ∈ vs
  · by_cases hb : k < σ.length
    · rw [wipe_at hk (by omega), wipe_at hk hb]
    · rw [List.getElem?_eq_none (by rw [wipe_length]; omega), List.getElem?_eq_none (by rw [wipe_length]; omega)]
  · rw [wipe_out hk, h k hk]
def RTs (X : Cx) (ifs : List Expr) : TT := fun σ H Q => ∃ t, PTs X ifs t ∧ t σ H Q
def TDs (X : Cx) (ρ : En) (ifs : List Expr) (b : Bool) : Prop := ∀ B0 B σ H0 H (Q : Bool → Hp → Prop), J X.K B0 B σ H0 H ρ → (∀ H0' H', JH H0 H H0' H' → Q b H') → RTs X ifs σ H Q
theorem tds_nil : TDs X ρ [] true := fun B0 B σ H0 H Q j k => ⟨_, pts_nil, k H0 H (JH.refl j.same)⟩
theorem tds_one {k : Bool} (h : TD X ρ c k) : TDs X ρ [c] k := fun B0 B σ H0 H Q j kk => ⟨_, pts_one pt_star, h B0 B σ H0 H _ j kk⟩
theorem filterMap_take {α β : Type} (g : α → Option β) (ds : List α) (i : Nat) (d : α) (h : ds[i]? = some d) : (ds.take (i + 1)).filterMap g = (ds.take i).filterMap g ++ (g d).toList := by
  rw [List.take_add_one, h, List.filterMap_append]
  cases q : g d <;> simp [List.filterMap_cons, q]
theorem filterMap_len {α β : Type} (g : α → Option β) (ds : List α) (i : Nat) : ((ds.take i).filterMap g).length ≤ i := by
  refine Nat.le_trans (List.length_filterMap_le _ _) ?_
  simp; omega
section
variable {elt tg iter : Expr} {ifs : List Expr} {scope : Scope} {own : List (Str × Nat)} {ds : List D}
/-- one turn of a comprehension, in every block that may be -/
def Turn1 (X : Cx) (ρ : En) (scope : Scope) (vs : List Nat) (tg elt : Expr) (ifs : List Expr) (d : D) (y : Option D) : Prop :=
  ∃ ρ' : En, ρ'.length = ρ.length ∧ ∀ (s : Shared) (H : Hp) (C : Addr) (cl : List (Str × Addr)) (fp : List Addr), DG (X.blk s H scope (compEnvC scope cl C X.env) fp) vs tg d (wipeE ρ vs) ρ' ∧
    (match y with
    | some z => TDs (X.blk s H scope (compEnvC scope cl C X.env) fp) ρ' ifs true ∧ ED (X.blk s H scope (compEnvC scope cl C X.env) fp) ρ' elt z
    | none => TDs (X.blk s H scope (compEnvC scope cl C X.env) fp) ρ' ifs false)
def GB (X : Cx) (scope : Scope) (tg : Expr) : TG := fun v σ H Q => ∀ (s : Shared) (H' : Hp) (C : Addr) (cl : List (Str × Addr)) (fp : List Addr), RG (X.blk s H' scope (compEnvC scope cl C X.env) fp) tg v σ H Q
def TB (X : Cx) (scope : Scope) (ifs : List Expr) : TT := fun σ H Q => ∀ (s : Shared) (H' : Hp) (C : Addr) (cl : List (Str × Addr)) (fp : List Addr), RTs (X.blk s H' scope (compEnvC scope cl C X.env) fp) ifs σ H Q
def EB (X : Cx) (scope : Scope) (elt : Expr) : TE := fun σ H Q => ∀ (s : Shared) (H' : Hp) (C : Addr) (cl : List (Str × Addr)) (fp : List Addr), RE (X.blk s H' scope (compEnvC scope cl C X.env) fp) elt σ H Q
def TLc (X : Cx) (scope : Scope) (own : List (Str × Nat)) (tg elt iter : Expr) (ifs : List Expr) : TE := tLc (RI X tg iter) (GB X scope tg) (TB X scope ifs) (EB X scope elt) (own.map (·.2))
theorem wipeE_length (ρ : En) : ∀ vs : List Nat, (wipeE ρ vs).length = ρ.length
  | [] => rfl
  | v :: vs => by unfold wipeE; rw [List.length_set, wipeE_length ρ vs]
theorem lc_read (hi : ID X ρ tg iter ds) (ys : List (Option D)) (hlen : ys.length = ds.length) (turn : ∀ (i : Nat) d y, ds[i]? = some d → ys[i]? = some y → Turn1 X ρ scope (own.map (·.2)) tg elt ifs d y) (hl : ds.length ≤ sizeLine) {B0 B : Hp} {σ : St} {H0 H : Hp} {Q : VK} (j : J X.K B0 B σ H0 H ρ)
    (k : ∀ a o H0' H', JH H0 H H0' H' → H' a = some o → H0' a = none → H a = none → OCR X.K H0' (.lst (ys.filterMap id)) o → Q (.ref a) H') : TLc X scope own tg elt iter ifs σ H Q := by
  refine hi B0 B σ H0 H _ j fun Jt G0 G g0 ⟨GG, Y, w, hG, hY⟩ => fun Dn hD => ?_
  have j0 := j.grow g0
  refine lc_it (g := GB X scope tg) (tt := TB X scope ifs) (te := EB X scope elt) (vs := own.map (·.2)) (Qd := fun H => Q (.ref Dn) H) w (fun i H1 => ∃ L0 acc, JH G0 G L0 H1 ∧ H1 Dn = some (.lst acc) ∧ L0 Dn = none ∧ DRs X.K L0 ((ys.take i).filterMap id) acc) ⟨G0, [], JH.own g0.sh hD, upd_same, g0.sh.free hD, rfl⟩ (fun i H1 _ ⟨L0, acc, g1, _⟩ => hG L0 H1 g1.s0 g1.sh) ?_ ?_
  · rintro i x H1 H1' hi ⟨L0, acc, g1, hDn, hD0, racc⟩ hy
    obtain ⟨d, hd⟩ : ∃ d, ds[i]? = some d := ⟨ds[i], by simp [hi]⟩
    obtain ⟨L1, g2, rx⟩ := hY i L0 H1 x H1' d hd g1.s0 g1.sh hy
    obtain ⟨yo, hyo⟩ : ∃ y, ys[i]? = some y := ⟨ys[i]'(by omega), by simp [show i < ys.length by omega]⟩
    obtain ⟨ρ', hlen', turn⟩ := turn i d yo hd hyo
    have j1 := ((j0.grow g1).grow g2).wipe (own.map (·.2))
    have hacc : acc.length < sizeLine := by
      have h1 := DRs.length racc
      have h2 := filterMap_len id ys i
      omega
    intro s Hs C cl fp
    refine (turn s Hs C cl fp).1 B0 B _ L1 H1' x _ j1 rx fun σ2 j2 off => ⟨wipe_back (by rw [j2.len, hlen', ← wipeE_length ρ (own.map (·.2)), ← j1.len, wipe_length]) off, ?_⟩
    have gg := g1.trans g2
    have hDn' : H1' Dn = some (.lst acc) := g2.sB _ _ hDn
    have hD0' : L1 Dn = none := g2.fr _ _ hDn trivial hD0
    have eT := filterMap_take id ys i yo hyo
    cases yo with
    | none =>
      intro s Hs C cl fp
      have t2 := (turn s Hs C cl fp).2
      refine t2 B0 B σ2 L1 H1' _ j2 fun M0 M g3 => iteF ⟨M0, acc, gg.trans g3, g3.sB _ _ hDn', g3.fr _ _ hDn' trivial hD0', ?_⟩
      rw [eT]
      simpa using DRs.mono (g2.trans g3).s0 _ _ racc
    | some z =>
      intro s Hs C cl fp
      have t2 := (turn s Hs C cl fp).2
      refine t2.1 B0 B σ2 L1 H1' _ j2 fun M0 M g3 => iteT fun s Hs C cl fp => ?_
      have t3 := (turn s Hs C cl fp).2
      refine t3.2 B0 B σ2 M0 M _ (j2.grow g3) fun y N0 N g4 ry => ?_
      have g34 := g3.trans g4
      have h4 : N Dn = some (.lst acc) := g34.sB _ _ hDn'
      have h40 : N0 Dn = none := g34.fr _ _ hDn' trivial hD0'
      have gl := gg.trans g34
      refine ⟨acc, h4, hacc, N0, acc ++ [y], ⟨gl.s0, fun b u e => upd_keep (gl.sh b u e) (ne_of_none e h40), fun b u e => upd_keep (gl.sB b u e) (ne_of_none e hD), gl.fr⟩, upd_same, h40, ?_⟩
      rw [eT]
      exact DRs.app (DRs.mono (g2.trans g34).s0 _ _ racc) (DRs.one ry)
  · rintro H1 ⟨L0, acc, g1, hDn, hD0, racc⟩
    rw [List.take_of_length_le (Nat.le_of_eq hlen)] at racc
    exact k Dn _ L0 H1 (g0.trans g1) hDn hD0 (g0.sB.free hD) ⟨acc, rfl, racc⟩
variable {cpos : Pos}
theorem eo_lc (own : List (Str × Nat)) (hc : X.calm = true) (hN : X.N.Nodup) (ok : BlkOk X.N X.env.scope scope own) (hi : ID X ρ tg iter ds) (ys : List (Option D)) (hlen : ys.length = ds.length) (turn : ∀ (i : Nat) d y, ds[i]? = some d → ys[i]? = some y → Turn1 X ρ scope (own.map (·.2)) tg elt ifs d y) (hl : ds.length ≤ sizeLine)
    (hs : ∀ x, foldedSetIterable iter X.env x = pure x := by intro _; rfl) : EO X ρ (.ListComp elt [⟨tg, iter, ifs, 0⟩] scope cpos) (.lst (ys.filterMap id)) := fun B0 B σ H0 H Q j k =>
  RE.of (pe_lc hc hN pi_star ok (g := GB X scope tg) (tt := TB X scope ifs) (te := EB X scope elt)
    (fun s H C cl fp => ⟨fun pins s1 σ1 H1 v u Q1 I r h => (pg_star (tg := tg)).run pins s1 σ1 H1 v u Q1 I r (h s H C cl fp)⟩)
    (fun s H C cl fp => ⟨fun pins s1 σ1 H1 Q1 I h => by obtain ⟨t, h1, h2⟩ := h s H C cl fp; exact h1.run pins s1 σ1 H1 Q1 I h2⟩)
    (fun s H C cl fp => ⟨fun pins s1 σ1 H1 Q1 I h => (pe_star (e := elt)).run pins s1 σ1 H1 Q1 I (h s H C cl fp)⟩) hs) (lc_read hi ys hlen turn hl j k)
end
inductive Out where
  | nx (ρ : En) | bk (ρ : En) | ct (ρ : En) | rt (d : D)
  /-- .. with what was its own -/
  | ro (c : OC)
  /-- .. with what it was lent -/
  | rc (d : D) (cs : List (Addr × OC))
def Post (K : PySem.W.Frag) (B0 B : Hp) (Dn : Ends) : Out → Prop
  | .nx ρ => ∀ σ H0 H, J K B0 B σ H0 H ρ → Dn.nx σ H
  | .bk ρ => ∀ σ H0 H, J K B0 B σ H0 H ρ → Dn.bk σ H
  | .ct ρ => ∀ σ H0 H, J K B0 B σ H0 H ρ → Dn.ct σ H
  | .rt d => ∀ v H0 H, JH B0 B H0 H → DR K H0 d v → Dn.rt v H
  | .ro c => ∀ a o H0 H, JH B0 B H0 H → H a = some o → H0 a = none → B a = none → OCR K H0 c o → Dn.rt (.ref a) H
  | .rc d cs => ∀ v H0 H, JH B0 B H0 H → (∀ p ∈ cs, CellR K B H0 H p.1 p.2) → (cs.map (·.1)).Nodup → DR K H0 d v → Dn.rt v H
def WS (X : Cx) (st : Stmt) (ρ : En) (Φ : Out → Prop) : Prop := ∀ B0 B σ H0 H Dn, J X.K B0 B σ H0 H ρ → (∀ o, Φ o → Post X.K B0 B Dn o) → RS X st Dn σ H
def WSs (X : Cx) (sts : List Stmt) (ρ : En) (Φ : Out → Prop) : Prop := ∀ B0 B σ H0 H Dn, J X.K B0 B σ H0 H ρ → (∀ o, Φ o → Post X.K B0 B Dn o) → RSs X sts Dn σ H
/-- what is wanted of a statement that others follow -/
def Then (X : Cx) (rest : List Stmt) (Φ : Out → Prop) : Out → Prop
  | .nx ρ => WSs X rest ρ Φ
  | o => Φ o
variable {st : Stmt} {rest : List Stmt} {Φ : Out → Prop}
theorem ws_nil (h : Φ (.nx ρ)) : WSs X [] ρ Φ := fun B0 B σ H0 H Dn j k => ⟨_, pss_nil, k _ h σ H0 H j⟩
theorem ws_cons (h : WS X st ρ (Then X rest Φ)) : WSs X (st :: rest) ρ Φ := fun B0 B σ H0 H Dn j k => by
  refine ⟨_, pss_cons ps_star pss_star, h B0 B σ H0 H _ j fun o ho => ?_⟩
  cases o with
  | nx ρ' => exact fun σ' H0' H' j' => ho B0 B σ' H0' H' Dn j' k
  | bk ρ' => exact k _ ho
  | ct ρ' => exact k _ ho
  | rt d => exact k _ ho
  | ro c => exact k _ ho
  | rc d cs => exact k _ ho
theorem ws_mono {Ψ : Out → Prop} (h : WSs X rest ρ Ψ) (k : ∀ o, Ψ o → Φ o) : WSs X rest ρ Φ := fun B0 B σ H0 H Dn j kk => h B0 B σ H0 H Dn j fun o ho => kk o (k o ho)
/-- what a slot owns is given to all -/
theorem ws_share (i : Nat) {c : OC} (hi : ρ[i]? = some (.ow c)) (h : WSs X rest (ρ.set i (.sh c.d)) Φ) : WSs X rest ρ Φ := fun B0 B σ H0 H Dn j k => by
  obtain ⟨H0', j', _⟩ := j.share hi
  exact h B0 B σ H0' H Dn j' k
theorem ws_ret (h : ED X ρ e d) (hΦ : Φ (.rt d)) : WS X (.Return (some e) pos) ρ Φ := fun B0 B σ H0 H Dn j k =>
  ⟨_, ps_ret pe_star, h B0 B σ H0 H _ j fun v H0' H' g r => k _ hΦ v H0' H' (j.hp.trans g) r⟩
theorem ws_if {k : Bool} {sa sb : List Stmt} (hc : TD X ρ c k) (h1 : k = true → WSs X sa ρ Φ) (h2 : k = false → WSs X sb ρ Φ) : WS X (.If c sa sb pos) ρ Φ := fun B0 B σ H0 H Dn j kk => by
  refine ⟨_, ps_if pt_star pss_star pss_star, hc B0 B σ H0 H _ j fun H0' H' g => ?_⟩
  cases k with
  | true => exact iteT (h1 rfl B0 B σ H0' H' Dn (j.grow g) kk)
  | false => exact iteF (h2 rfl B0 B σ H0' H' Dn (j.grow g) kk)
theorem ws_set (i : Nat) {x : Str} {pos' : Pos} (hN : X.N.Nodup) (he : ED X ρ e d) (hΦ : Φ (.nx (ρ.set i (.sh d)))) (hi : X.N[i]? = some x := by rfl) (hx : Loc X.env.scope x := by first | exact Or.inl rfl | exact Or.inr rfl)
    (hs : swapsWith e (some (.Name x pos')) pos.line X.env = pure false := by rfl) (hf : X.fn x = true ∨ X.env.scope.names.lookup x = some .local := by first | exact .inl rfl | exact .inr rfl) : WS X (.Assign [.Name x pos'] e pos) ρ Φ := fun B0 B σ H0 H Dn j k =>
  ⟨_, ps_set hN hi hx pe_star hs hf, he B0 B σ H0 H _ j fun v H0' H' g r => k _ hΦ _ H0' H' ((j.grow g).setSh r)⟩
theorem J.setNew {K : PySem.W.Frag} {B0 B H0 H H0' H' : Hp} {σ : St} {ρ : En} (j : J K B0 B σ H0 H ρ) (g : JH H0 H H0' H') {i : Nat} {c : OC} {a : Addr} {o : HO} (h : H' a = some o) (h0 : H0' a = none) (n : H a = none) (r : OCR K H0' c o) :
    J K B0 B (σ.set i (some (.ref a))) H0' H' (ρ.set i (.ow c)) :=
  (j.grow g).setOwn h h0 (j.hp.sB.free n) (fun m s ov _ hm hs w => by
    obtain ⟨o', h1, _⟩ := j.own hm hs w
    rw [n] at h1; cases h1) r
theorem ws_setO (i : Nat) {x : Str} {c : OC} {pos' : Pos} (hN : X.N.Nodup) (he : EO X ρ e c) (hΦ : Φ (.nx (ρ.set i (.ow c)))) (hi : X.N[i]? = some x := by rfl) (hx : Loc X.env.scope x := by first | exact Or.inl rfl | exact Or.inr rfl)
    (hs : swapsWith e (some (.Name x pos')) pos.line X.env = pure false := by rfl) (hf : X.fn x = true ∨ X.env.scope.names.lookup x = some .local := by first | exact .inl rfl | exact .inr rfl) : WS X (.Assign [.Name x pos'] e pos) ρ Φ := fun B0 B σ H0 H Dn j k =>
  ⟨_, ps_set hN hi hx pe_star hs hf, he B0 B σ H0 H _ j fun a o H0' H' g h1 h2 h3 r => k _ hΦ _ H0' H' (j.setNew g h1 h2 h3 r)⟩
section
variable {elt tg iter : Expr} {ifs : List Expr} {scope : Scope} {ds : List D} {cpos : Pos}
/-- y = [.. for ..], y a local of the def's own on the same line -/
theorem ws_setLc (i : Nat) (own : List (Str × Nat)) {y : Str} {py : Pos} (hc : X.calm = true) (hN : X.N.Nodup) (ok : BlkOk X.N X.env.scope scope own) (hi : ID X ρ tg iter ds) (ys : List (Option D)) (hlen : ys.length = ds.length) (turn : ∀ (i : Nat) d y, ds[i]? = some d → ys[i]? = some y → Turn1 X ρ scope (own.map (·.2)) tg elt ifs d y) (hl : ds.length ≤ sizeLine)
    (hΦ : Φ (.nx (ρ.set i (.ow (.lst (ys.filterMap id)))))) (hy : X.N[i]? = some y := by rfl) (hyl : X.env.scope.names.lookup y = some .local := by rfl)
    (hsw : swapsWith (.ListComp elt [⟨tg, iter, ifs, 0⟩] scope cpos) (some (.Name y py)) pos.line X.env = pure true := by exact sw_true rfl rfl rfl (by decide +kernel)) (hs : ∀ x, foldedSetIterable iter X.env x = pure x := by intro _; rfl) :
    WS X (.Assign [.Name y py] (.ListComp elt [⟨tg, iter, ifs, 0⟩] scope cpos) pos) ρ Φ := fun B0 B σ H0 H Dn j k =>
  ⟨_, ps_setLc hc hN hy hyl hsw pi_star ok (g := GB X scope tg) (tt := TB X scope ifs) (te := EB X scope elt)
    (fun s H C cl fp => ⟨fun pins s1 σ1 H1 v u Q1 I r h => (pg_star (tg := tg)).run pins s1 σ1 H1 v u Q1 I r (h s H C cl fp)⟩)
    (fun s H C cl fp => ⟨fun pins s1 σ1 H1 Q1 I h => by obtain ⟨t, h1, h2⟩ := h s H C cl fp; exact h1.run pins s1 σ1 H1 Q1 I h2⟩)
    (fun s H C cl fp => ⟨fun pins s1 σ1 H1 Q1 I h => (pe_star (e := elt)).run pins s1 σ1 H1 Q1 I (h s H C cl fp)⟩) hs,
   lc_read hi ys hlen turn hl j fun a o H0' H' gg h1 h2 h3 r => k _ hΦ _ H0' H' (j.setNew gg h1 h2 h3 r)⟩
end
/-- xs.append(e), xs a list of the def's own -/
theorem ws_append (i : Nat) {x : Str} {p1 p2 p3 : Pos} {ds : List D} (hi : ρ[i]? = some (.ow (.lst ds))) (he : ED X ρ e d) (hl : ds.length < sizeLine) (hΦ : Φ (.nx (ρ.set i (.ow (.lst (ds ++ [d]))))))
    (hpe : ∀ {ta : TA}, PA X [e] ta → PS X (.Expr (.Call (.Attribute (.Name x p1) "append" p2) [e] [] p3) pos) (tDrop (tBM X.K "list" rAppend (tVar i) ta))) (hs : starEach [e] X.env = (false, eval e X.env) :: starEach [] X.env := by rfl) :
    WS X (.Expr (.Call (.Attribute (.Name x p1) "append" p2) [e] [] p3) pos) ρ Φ := fun B0 B σ H0 H Dn j k => by
  obtain ⟨ov, e1, a, o, rfl, h1, h2, h3, vs, rfl, r⟩ := j.get hi
  refine ⟨_, hpe pa_star, .ref a, e1, Or.inl ⟨rfl, _, Or.inl (Or.inl h1)⟩, ad_cons (X := X) he ad_nil hs B0 B σ H0 H _ j fun ws G0 G g rr => ?_⟩
  obtain ⟨y, rfl, ry⟩ := rr.one'
  have j1 := j.grow g
  obtain ⟨ov', e1', a', o', e2, h1', _, _, vs', rfl, r'⟩ := j1.get hi
  rw [e1] at e1'; cases e1'; cases e2
  refine ⟨a, vs', y, rfl, rfl, h1', by rw [← DRs.length r']; exact hl, ?_⟩
  exact k _ hΦ _ G0 _ (j1.write hi e1 ⟨_, rfl, DRs.app r' (DRs.one ry)⟩)
/-- for: I by the turn and the slots -/
theorem ws_for {tg iter : Expr} {body : List Stmt} {ds : List D} (hc : X.calm = true) (hi : ID X ρ tg iter ds) (I : Nat → En → Prop) (h0 : I 0 ρ)
    (hs : ∀ i d ρ', ds[i]? = some d → I i ρ' → ∃ is ρ'', DG X is tg d ρ' ρ'' ∧ WSs X body ρ'' (fun o => match o with | .nx r => I (i + 1) r | .ct r => I (i + 1) r | .bk r => Φ (.nx r) | .rt v => Φ (.rt v) | .ro c => Φ (.ro c) | .rc v cs => Φ (.rc v cs))) (hd : ∀ ρ', I ds.length ρ' → Φ (.nx ρ'))
    (hp : PassesOwn (model X.prog X.w) X.A X.env X.xe := by exact PassesOwn.never) (hf : ∀ x, foldedSetIterable iter X.env x = pure x := by intro _; rfl) : WS X (.For tg iter body [] pos) ρ Φ := fun B0 B σ H0 H Dn j k => by
  refine ⟨_, ps_for hp hc pi_star pg_star pss_star hf, hi B0 B σ H0 H _ j fun Jt G0 G g0 ⟨GG, Y, w, hG, hY⟩ => ?_⟩
  have j0 := j.grow g0
  refine for_it w (fun i σ' H1 => ∃ ρ' L0, I i ρ' ∧ J X.K G0 B σ' L0 H1 ρ') ⟨ρ, G0, h0, j0.rebase⟩ (fun i σ' H1 _ ⟨ρ', L0, _, j1⟩ => hG L0 H1 j1.hp.s0 j1.hp.sh) ?_ ?_
  · rintro i x σ1 H1 H1' hi ⟨ρ1, L0, hI, j1⟩ hy
    obtain ⟨d, hd'⟩ : ∃ d, ds[i]? = some d := ⟨ds[i], by simp [hi]⟩
    obtain ⟨L1, g2, rx⟩ := hY i L0 H1 x H1' d hd' j1.hp.s0 j1.hp.sh hy
    obtain ⟨is, ρ2, hg, hb⟩ := hs i d ρ1 hd' hI
    refine hg G0 B σ1 L1 H1' x _ (j1.grow g2) rx fun σ2 j2 _ => ?_
    refine hb G0 B σ2 L1 H1' _ j2 fun o ho => ?_
    cases o with
    | nx r => exact fun σ3 M0 M j3 => ⟨r, M0, ho, j3⟩
    | ct r => exact fun σ3 M0 M j3 => ⟨r, M0, ho, j3⟩
    | bk r => exact fun σ3 M0 M j3 => k _ ho σ3 M0 M (j0.unbase j3)
    | rt v => exact fun v' M0 M g r => k _ ho v' M0 M ⟨j0.hp.s0.trans g.s0, g.sh, g.sB, fun b u e n e' => g.fr b u e n (j0.hp.fr b u e n e')⟩ r
    | ro c => exact fun a o M0 M g h1 h2 h3 r => k _ ho a o M0 M ⟨j0.hp.s0.trans g.s0, g.sh, g.sB, fun b u e n e' => g.fr b u e n (j0.hp.fr b u e n e')⟩ h1 h2 h3 r
    | rc v cs => exact fun a M0 M g h1 h2 r => k _ ho a M0 M ⟨j0.hp.s0.trans g.s0, g.sh, g.sB, fun b u e n e' => g.fr b u e n (j0.hp.fr b u e n e')⟩ h1 h2 r
  · rintro σ1 H1 ⟨ρ1, L0, hI, j1⟩
    exact k _ (hd ρ1 hI) σ1 L0 H1 (j0.unbase j1)
end
end DL
namespace DL
open PySem PySem.Spec PyProof.Rows L2
def en (N : List Str) (ds : List D) : En := ds.map Sl.sh ++ List.replicate (N.length - ds.length) Sl.no
section
variable {P : Program} {w : World} {K : PySem.W.Frag} {mg : Str → Option Value} {base : Heap}
theorem en_kind {N : List Str} {ds : List D} {i : Nat} {s : Sl} (h : (en N ds)[i]? = some s) : s = .no ∨ ∃ d, s = .sh d := by
  unfold en at h
  by_cases hi : i < ds.length
  · rw [List.getElem?_append_left (by simpa using hi), List.getElem?_map, show ds[i]? = some ds[i] by simp [hi]] at h
    cases h; exact .inr ⟨_, rfl⟩
  · rw [List.getElem?_append_right (by simp; omega), List.getElem?_replicate] at h
    split at h
    · cases h; exact .inl rfl
    · cases h
theorem j_start {N : List Str} {H0 H : Hp} {ds : List D} {vs : List V} (s : Same H0 H) (r : DRs K H0 ds vs) (hl : ds.length ≤ N.length) : J K H0 H (L2.start N vs) H0 H (en N ds) := by
  have hlen := DRs.length r
  refine ⟨JH.refl s, by simp [L2.start, en, hlen], fun i sl ov h1 h2 => ?_, fun i j s1 s2 o1 o2 a h1 _ _ _ w _ => absurd w (Owns.none (en_kind h1) a)⟩
  unfold en at h1
  unfold L2.start at h2
  by_cases hi : i < ds.length
  · rw [List.getElem?_append_left (by simpa using hi), List.getElem?_map] at h1
    rw [List.getElem?_append_left (by simp; omega), List.getElem?_map] at h2
    obtain ⟨v, e1, e2⟩ := DRs.get r (show ds[i]? = some ds[i] by simp [hi])
    rw [show ds[i]? = some ds[i] by simp [hi]] at h1
    rw [e1] at h2
    cases h1; cases h2
    exact ⟨v, rfl, e2⟩
  · rw [List.getElem?_append_right (by simp; omega), List.getElem?_replicate] at h1
    split at h1
    · cases h1; trivial
    · cases h1
/-- the context of a def's body -/
abbrev bx (P : Program) (w : World) (K : PySem.W.Frag) (mg : Str → Option Value) (base : Heap) (N : List Str) (qual : Str) (st : Stmt) (f : Addr) (cdv : Value) (A : Around) (outer : List Env) (s : Shared) (H : Hp) (E : XK) : Cx :=
  (cxOf CX0 P w K mg base N qual (defScope st) f cdv A outer s H E).nox
theorem fn_ok {x qual : Str} {st : Stmt} {f : Addr} {fd : FuncData} {N ps : List Str} {k : Nat} {R : List D → D → Prop} (F : Fun K x qual st f fd) (S : FnScope N ps (defScope st)) (hR : ∀ ds d, R ds d → ds.length = ps.length)
    (h : ∀ ds d, R ds d → ∀ (cdv : Value) (A : Around) (outer : List Env) (s : Shared) (H : Hp) (E : XK), Room k (A.deeper (envOfC qual (defScope st) s.heap.objs.size f cdv)) →
      WSs (bx P w K mg base N qual st f cdv A outer s H E) (defBody st) (en N ds) (fun o => o = .rt d ∨ (∃ ρ, o = .nx ρ ∧ d = .non))) : FnOk P w K mg base CX0 (k + 1) f fd ps (spR K R) := by
  refine F.ok S (fun vs H Q E hs => ?_) fun cdv A outer s H vs Q E hr hs => ?_
  · obtain ⟨H0, ds, d, _, r, q, _⟩ := hs
    rw [← DRs.length r]; exact hR ds d q
  · obtain ⟨H0, ds, d, s0, r, q, kk⟩ := hs
    have hN : ds.length ≤ N.length := by
      have h1 := hR ds d q
      have h2 := congrArg List.length S.pre
      rw [List.length_take] at h2
      omega
    obtain ⟨t, h1, h2⟩ := h ds d q cdv A outer s H E hr H0 H (L2.start N vs) H0 H (j_start s0 r hN) (Dn := { nx := fun _ H' => Q .non H', rt := Q }) fun o ho => by
      rcases ho with rfl | ⟨ρ, rfl, rfl⟩
      · exact fun v G0 G g rv => kk v G0 G g rv
      · exact fun σ G0 G j => kk .non G0 G j.hp rfl
    exact ⟨t, h1, h2⟩
/-- what a law promises -/
inductive RLaw : List D → D → Prop where
  | mk (ns : List Int) (h : ns.length ≤ 63) : RLaw [.lst (ns.map .int)] (.bl true)
def spLaw (K : PySem.W.Frag) : Sp := fun vs H Q _ => ∃ (a : Addr) (ns : List Int), vs = [.ref a] ∧ SqL K H a (ns.map V.int) ∧ ns.length ≤ 63 ∧ ∀ H', Q (.bl true) H'
theorem law_sp {k : Nat} {f : Addr} {fd : FuncData} {ps : List Str} (F : FnOk P w K mg base CX0 k f fd ps (spR K RLaw)) : FnOk P w K mg base CX0 k f fd ps (spLaw K) :=
  F.imp fun vs H Q E ⟨a, ns, e, hS, hl, q⟩ => ⟨H, [.lst (ns.map .int)], .bl true, Same.refl H, by rw [e]; exact ⟨.ref a, [], rfl, ⟨a, _, rfl, hS, DRs.ofInts ns⟩, rfl⟩, ⟨ns, hl⟩, fun r H0' H' g rr => by
    cases (show r = .bl true from rr); exact q H'⟩
theorem walk_law {l : PySem.W.OpenLaw} {q : Program} {loose : List Str} {XP : (Str → Option Value) → Heap → Prop} {YP : World → Heap → Prop} {d : DefRec} {K : Params → PySem.W.Frag} {k : Nat} (hn : l.most = some 63) (hr : Room k callerA) (hdf : d.params.defaults = [])
    (hY : ∀ (w : World) (h : Heap), YP w h → (K w.params).In h)
    (F : ∀ (w : World) (mg : Str → Option Value) (fa : Addr) (h : Heap), (K w.params).In h → h.Ns mainGlobals mg → mg d.name = some (.ref fa) →
      ∃ fd : FuncData, (∀ (s : Shared) (u : Value), BindsTo s fd ⟨[u], []⟩ [("script", u)]) ∧ ∀ base : Heap, (K w.params).In base → base.Ns mainGlobals mg → FnOk l.prog w (K w.params) mg base CX0 k fa fd ["script"] (spR (K w.params) RLaw)) :
    PySem.W.WalkO q loose XP YP l.row.toRowW d [] (fun f vs => PySem.call f vs) :=
  L2.walk_of (n := 63) (k := k) (x := "script") (CX := fun _ => CX0) (sp := fun w => spLaw (K w.params)) hn (by decide) hdf hr hY
    (fun w mg fa h KX G e => let ⟨fd, h1, h2⟩ := F w mg fa h KX G e; ⟨fd, h1, fun base b1 b2 => law_sp (h2 base b1 b2)⟩) (fun _ _ a ns hl _ hS => ⟨a, ns, rfl, hS, hl, fun _ => rfl⟩) fun _ _ _ _ _ z => z
end
section
variable {X : Cx} {ρ : En}
/-- an item of a list, a tuple, a text -/
inductive IX : D → D → D → Prop where
  | t {ds i d} (h : atI ds i = some d) : IX (.tup ds) (.int i) d
  | l {ds i d} (h : atI ds i = some d) : IX (.lst ds) (.int i) d
theorem IX.t0 {a r} : IX (.tup (a :: r)) (.int 0) a := .t (by unfold atI ixN; simp only [List.length_cons]; rw [if_pos (by decide), if_pos (by omega)]; rfl)
theorem IX.t1 {a b r} : IX (.tup (a :: b :: r)) (.int 1) b := .t (by unfold atI ixN; simp only [List.length_cons]; rw [if_pos (by decide), if_pos (by omega)]; rfl)
theorem IX.t2 {a b c r} : IX (.tup (a :: b :: c :: r)) (.int 2) c := .t (by unfold atI ixN; simp only [List.length_cons]; rw [if_pos (by decide), if_pos (by omega)]; rfl)
theorem IX.t3 {a b c d r} : IX (.tup (a :: b :: c :: d :: r)) (.int 3) d := .t (by unfold atI ixN; simp only [List.length_cons]; rw [if_pos (by decide), if_pos (by omega)]; rfl)
theorem IX.t4 {a b c d e r} : IX (.tup (a :: b :: c :: d :: e :: r)) (.int 4) e := .t (by unfold atI ixN; simp only [List.length_cons]; rw [if_pos (by decide), if_pos (by omega)]; rfl)
theorem IX.t5 {a b c d e f r} : IX (.tup (a :: b :: c :: d :: e :: f :: r)) (.int 5) f := .t (by unfold atI ixN; simp only [List.length_cons]; rw [if_pos (by decide), if_pos (by omega)]; rfl)
theorem IX.l0 {a r} : IX (.lst (a :: r)) (.int 0) a := .l (by unfold atI ixN; simp only [List.length_cons]; rw [if_pos (by decide), if_pos (by omega)]; rfl)
theorem IX.l1 {a b r} : IX (.lst (a :: b :: r)) (.int 1) b := .l (by unfold atI ixN; simp only [List.length_cons]; rw [if_pos (by decide), if_pos (by omega)]; rfl)
theorem IX.l2 {a b c r} : IX (.lst (a :: b :: c :: r)) (.int 2) c := .l (by unfold atI ixN; simp only [List.length_cons]; rw [if_pos (by decide), if_pos (by omega)]; rfl)
theorem ed_ix {a b : Expr} {d1 d2 d : D} {pos : Pos} (ha : ED X ρ a d1) (hb : ED X ρ b d2) (h : IX d1 d2 d) (hs : PlainIx b := by exact fun _ _ => rfl) : ED X ρ (.Subscript a b pos) d := by
  cases h with
  | t h => exact ix_t ha hb h hs
  | l h => exact ix_l ha hb h hs
theorem atI_nn {α : Type} {xs : List α} {i : Int} {v : α} (h0 : 0 ≤ i) (h : xs[i.toNat]? = some v) : atI xs i = some v := by
  have e : ((i.toNat : Nat) : Int) = i := Int.toNat_of_nonneg h0
  rw [← e]; exact atI_nat h
/-- isinstance of a built-in class -/
def tyD : D → Option String
  | .non => some "NoneType" | .bl _ => some "bool" | .int _ => some "int" | .str _ => some "str"
  | .lst _ => some "list" | .tup _ => some "tuple" | .dk _ _ => some "dict" | .dt _ _ => none | .obj _ _ _ => none | .ad _ => none | .ptp _ => none | .etp _ => none | .exc _ _ _ _ => none | .ty _ => none
theorem tyx_of {K : PySem.W.Frag} {H : Hp} {d : D} {v : V} {n : String} (h : DR K H d v) (hn : tyD d = some n) (hnn : n ≠ "NoneType") : TyX K H v (.type n) := by
  cases d with
  | non => cases hn; exact absurd rfl hnn
  | bl _ => cases (show v = .bl _ from h); cases hn; exact .base (.bl _)
  | int _ => cases (show v = .int _ from h); cases hn; exact .base (.int _)
  | str _ => cases (show v = .str _ from h); cases hn; exact .base (.str _)
  | lst _ =>
    obtain ⟨a, vs, rfl, h1, _⟩ := h
    cases hn
    rcases h1 with (h1 | ⟨o, h1⟩) | ⟨o, its, n, h1, h2, _⟩
    · exact .base (.lst h1)
    · exact .base (.frz h1)
    · exact .kList h1 h2
  | tup _ =>
    obtain ⟨a, vs, rfl, h1, _⟩ := h
    cases hn
    rcases h1 with (h1 | ⟨o, h1⟩) | ⟨o, its, n, h1, h2, _⟩
    · exact .base (.tup h1)
    · exact .fTuple h1
    · exact .kTuple h1 h2
  | dk _ _ =>
    obtain ⟨a, vs, rfl, h1, _⟩ := h
    cases hn
    rcases h1 with h1 | ⟨o, h1⟩
    · exact .base (.dK h1)
    · exact .fDict h1
  | dt _ _ => cases hn
  | obj _ _ _ => cases hn
  | ad _ => cases hn
  | ptp _ => cases hn
  | etp _ => cases hn
  | exc _ _ _ _ => cases hn
  | ty _ => cases hn
theorem bc_isi {d : D} {n c : String} {b : Bool} (hn : tyD d = some n) (h : kitB n c = some b) (hnn : n ≠ "NoneType" := by decide) : BC X (.builtin "isinstance") [d, .ty c] (.bl b) :=
  bc_keep call_isi _ (fun _ => rfl) fun H0 H vs _ s r q => by
    obtain ⟨x, y, rfl, h1, h2⟩ := r.two
    cases (show y = .ty c from h2)
    exact ⟨x, .ty c, .type n, .type c, b, rfl, .ty c, tyx_of (DR.mono s _ _ h1) hn hnn, kit_ty h, q⟩
theorem ed_ty {x : Str} {n : String} {pos : Pos} (hg : Gl X x) (hm : X.mg x = none) (hv : bootBuiltins x = some (.type n)) (hn : x ≠ "__name__" := by decide) (hd : (x == ("__debug__" : Str)) = false := by decide) : ED X ρ (.Name x pos) (.ty n) :=
  fun B0 B σ H0 H Q j k => RE.of (pe_bltn (v := .ty n) hg hm hv rfl hn hd) (k _ H0 H (JH.refl j.same) rfl)
theorem filterMap_some {α β : Type} (f : α → β) : ∀ xs : List α, (xs.map fun x => some (f x)).filterMap id = xs.map f
  | [] => rfl
  | x :: xs => by simp [filterMap_some f xs]
theorem filterMap_if {α β : Type} (p : α → Bool) (f : α → β) : ∀ xs : List α, (xs.map fun x => if p x = true then some (f x) else none).filterMap id = (xs.filter p).map f
  | [] => rfl
  | x :: xs => by
    have ih := filterMap_if p f xs
    by_cases h : p x = true
    · simp only [List.map_cons, if_pos h, List.filter_cons_of_pos h, List.filterMap_cons, id, ih]
    · simp only [List.map_cons, if_neg h, List.filter_cons_of_neg h, List.filterMap_cons, id, ih]
section
variable {elt tg iter : Expr} {ifs : List Expr} {scope : Scope} {ds : List D} {cpos pos : Pos} {α β : Type} {Φ : Out → Prop}
theorem turns_map {own : List (Str × Nat)} {xs : List α} {enc : α → D} {f : α → D} (he : ds = xs.map enc) (turn : ∀ x ∈ xs, Turn1 X ρ scope (own.map (·.2)) tg elt ifs (enc x) (some (f x))) :
    ∀ (i : Nat) d y, ds[i]? = some d → (xs.map fun x => some (f x))[i]? = some y → Turn1 X ρ scope (own.map (·.2)) tg elt ifs d y := by
  subst he
  intro i d y h1 h2
  rw [List.getElem?_map] at h1 h2
  cases q : xs[i]? with
  | none => rw [q] at h1; cases h1
  | some x =>
    rw [q] at h1 h2
    cases h1; cases h2
    exact turn x (List.mem_of_getElem? q)
theorem turns_if {own : List (Str × Nat)} {xs : List α} {enc : α → D} {p : α → Bool} {f : α → D} (he : ds = xs.map enc) (turn : ∀ x ∈ xs, Turn1 X ρ scope (own.map (·.2)) tg elt ifs (enc x) (if p x = true then some (f x) else none)) :
    ∀ (i : Nat) d y, ds[i]? = some d → (xs.map fun x => if p x = true then some (f x) else none)[i]? = some y → Turn1 X ρ scope (own.map (·.2)) tg elt ifs d y := by
  subst he
  intro i d y h1 h2
  rw [List.getElem?_map] at h1 h2
  cases q : xs[i]? with
  | none => rw [q] at h1; cases h1
  | some x =>
    rw [q] at h1 h2
    cases h1; cases h2
    exact turn x (List.mem_of_getElem? q)
/-- [f x for x in xs] -/
theorem eo_map (own : List (Str × Nat)) (xs : List α) (enc : α → D) (f : α → D) (hc : X.calm = true) (hN : X.N.Nodup) (ok : BlkOk X.N X.env.scope scope own) (hi : ID X ρ tg iter ds) (he : ds = xs.map enc) (turn : ∀ x ∈ xs, Turn1 X ρ scope (own.map (·.2)) tg elt ifs (enc x) (some (f x))) (hl : xs.length ≤ sizeLine)
    (hs : ∀ x, foldedSetIterable iter X.env x = pure x := by intro _; rfl) : EO X ρ (.ListComp elt [⟨tg, iter, ifs, 0⟩] scope cpos) (.lst (xs.map f)) := by
  have h := eo_lc (cpos := cpos) own hc hN ok hi (xs.map fun x => some (f x)) (by rw [he]; simp) (turns_map he turn) (by rw [he]; simpa using hl) hs
  rwa [filterMap_some] at h
/-- [f x for x in xs if p x] -/
theorem eo_filter (own : List (Str × Nat)) (xs : List α) (enc : α → D) (p : α → Bool) (f : α → D) (hc : X.calm = true) (hN : X.N.Nodup) (ok : BlkOk X.N X.env.scope scope own) (hi : ID X ρ tg iter ds) (he : ds = xs.map enc) (turn : ∀ x ∈ xs, Turn1 X ρ scope (own.map (·.2)) tg elt ifs (enc x) (if p x = true then some (f x) else none)) (hl : xs.length ≤ sizeLine)
    (hs : ∀ x, foldedSetIterable iter X.env x = pure x := by intro _; rfl) : EO X ρ (.ListComp elt [⟨tg, iter, ifs, 0⟩] scope cpos) (.lst ((xs.filter p).map f)) := by
  have h := eo_lc (cpos := cpos) own hc hN ok hi (xs.map fun x => if p x = true then some (f x) else none) (by rw [he]; simp) (turns_if he turn) (by rw [he]; simpa using hl) hs
  rwa [filterMap_if] at h
theorem ws_setMap (i : Nat) (own : List (Str × Nat)) (xs : List α) (enc : α → D) (f : α → D) {y : Str} {py : Pos} (hc : X.calm = true) (hN : X.N.Nodup) (ok : BlkOk X.N X.env.scope scope own) (hi : ID X ρ tg iter ds) (he : ds = xs.map enc) (turn : ∀ x ∈ xs, Turn1 X ρ scope (own.map (·.2)) tg elt ifs (enc x) (some (f x))) (hl : xs.length ≤ sizeLine)
    (hΦ : Φ (.nx (ρ.set i (.ow (.lst (xs.map f)))))) (hy : X.N[i]? = some y := by rfl) (hyl : X.env.scope.names.lookup y = some .local := by rfl)
    (hsw : swapsWith (.ListComp elt [⟨tg, iter, ifs, 0⟩] scope cpos) (some (.Name y py)) pos.line X.env = pure true := by exact sw_true rfl rfl rfl (by decide +kernel)) (hs : ∀ x, foldedSetIterable iter X.env x = pure x := by intro _; rfl) :
    WS X (.Assign [.Name y py] (.ListComp elt [⟨tg, iter, ifs, 0⟩] scope cpos) pos) ρ Φ :=
  ws_setLc i own hc hN ok hi (xs.map fun x => some (f x)) (by rw [he]; simp) (turns_map he turn) (by rw [he]; simpa using hl) (by rw [filterMap_some]; exact hΦ) hy hyl hsw hs
/-- for x in xs: I by the turn and the slots -/
theorem ws_forT (xs : List α) (enc : α → D) {body : List Stmt} (hc : X.calm = true) (hi : ID X ρ tg iter ds) (he : ds = xs.map enc) (I : Nat → En → Prop) (h0 : I 0 ρ)
    (hs : ∀ i x ρ', xs[i]? = some x → I i ρ' → ∃ is ρ'', DG X is tg (enc x) ρ' ρ'' ∧ WSs X body ρ'' (fun o => match o with | .nx r => I (i + 1) r | .ct r => I (i + 1) r | .bk r => Φ (.nx r) | .rt v => Φ (.rt v) | .ro c => Φ (.ro c) | .rc v cs => Φ (.rc v cs))) (hd : ∀ ρ', I xs.length ρ' → Φ (.nx ρ'))
    (hp : PassesOwn (model X.prog X.w) X.A X.env X.xe := by exact PassesOwn.never) (hf : ∀ x, foldedSetIterable iter X.env x = pure x := by intro _; rfl) : WS X (.For tg iter body [] pos) ρ Φ := by
  subst he
  refine ws_for hc hi I h0 (fun i d ρ' h1 h2 => ?_) (by simpa using hd) hp hf
  rw [List.getElem?_map] at h1
  cases q : xs[i]? with
  | none => rw [q] at h1; cases h1
  | some x =>
    rw [q] at h1
    cases h1
    exact hs i x ρ' q h2
end
def tru : D → Option Bool
  | .non => some false | .bl b => some b | .int i => some (i != 0) | .lst ds => some (!ds.isEmpty) | .tup ds => some (!ds.isEmpty) | _ => none
theorem DRs.emp {K : PySem.W.Frag} {H : Hp} {ds : List D} {vs : List V} (h : DRs K H ds vs) : vs.isEmpty = ds.isEmpty := by
  cases ds with
  | nil => cases (show vs = [] from h); rfl
  | cons d ds => obtain ⟨v, r, rfl, _⟩ := h; rfl
theorem td_truth {e : Expr} {d : D} {k : Bool} (h : ED X ρ e d) (hk : tru d = some k) (he : ∀ whole, isTrue e X.env whole = (do let v ← whole; standAt e.pos; holding [v] (truthy v)) := by intro _; rfl) : TD X ρ e k := fun B0 B σ H0 H Q j kk =>
  RT.of (pt_truth pe_star he) (h B0 B σ H0 H _ j fun v H0' H' g r => by
    cases d with
    | non => cases (show v = .non from r); cases hk; exact ⟨_, rfl, kk _ _ g⟩
    | bl _ => cases (show v = .bl _ from r); cases hk; exact ⟨_, rfl, kk _ _ g⟩
    | int _ => cases (show v = .int _ from r); cases hk; exact ⟨_, rfl, kk _ _ g⟩
    | lst ds =>
      obtain ⟨a, vs, rfl, h1, h2⟩ := r
      cases hk
      exact ⟨_, .inl ⟨vs, g.sh.seq h1, rfl⟩, by rw [h2.emp]; exact kk _ _ g⟩
    | tup ds =>
      obtain ⟨a, vs, rfl, h1, h2⟩ := r
      cases hk
      exact ⟨_, .inr (.inl ⟨vs, Same.seqT g.sh h1, rfl⟩), by rw [h2.emp]; exact kk _ _ g⟩
    | str _ => cases hk
    | ty _ => cases hk
    | dk _ _ => cases hk
    | dt _ _ => cases hk
    | obj _ _ _ => cases hk
    | ad _ => cases hk
    | ptp _ => cases hk
    | etp _ => cases hk
    | exc _ _ _ _ => cases hk)
theorem fn_wrap {P : Program} {w : World} {K : PySem.W.Frag} {mg : Str → Option Value} {base : Heap} {x : Str} {f : Addr} {fd : FuncData} {ps : List Str} {k : Nat} {R : List D → D → Prop} (hm : mg x = some (.ref f)) (hb : Binds K fd ps []) (kp : PySem.W.keepIn K (.ref f) = true) (F : FnOk P w K mg base CX0 k f fd ps (spR K R)) :
    Fn P w K mg base x k R := ⟨⟨f, fd, ps, F, hm, kp, hb⟩⟩
theorem b2_powL {i j n : Int} (h : CPow i j) (e : i ^ j.toNat = n) : B2 X .Pow (.int i) (.int j) (.int n) := e ▸ b2_pow h
theorem turn_if {Y : Cx} {scope : Scope} {vs : List Nat} {tg elt : Expr} {ifs : List Expr} {d y : D} {p : Bool} (h1 : p = true → Turn1 Y ρ scope vs tg elt ifs d (some y)) (h2 : p = false → Turn1 Y ρ scope vs tg elt ifs d none) :
    Turn1 Y ρ scope vs tg elt ifs d (if p = true then some y else none) := by
  cases p with
  | true => exact h1 rfl
  | false => exact h2 rfl
inductive Part (X : Cx) (ρ : En) : Option Expr → Option Int → Prop where
  | none : Part X ρ none none
  | some {e i} (h : ED X ρ e (.int i)) : Part X ρ (some e) (some i)
theorem no_part : Part X ρ none none := .none
theorem some_part {e i} (h : ED X ρ e (.int i)) : Part X ρ (some e) (some i) := .some h
def RP (X : Cx) (e : Option Expr) : TO := fun σ H Q => ∃ t, PO X e t ∧ t σ H Q
theorem po_star {e} : PO X e (RP X e) := ⟨fun pins s σ H Q I ⟨_, h, q⟩ => h.run pins s σ H Q I q⟩
theorem Part.run {e : Option Expr} {o : Option Int} (h : Part X ρ e o) {B0 B : Hp} {σ : L2.St} {H0 H : Hp} {Q : Option Int → Hp → Prop} (j : J X.K B0 B σ H0 H ρ) (k : ∀ H0' H', JH H0 H H0' H' → Q o H') : RP X e σ H Q := by
  cases h with
  | none => exact ⟨_, po_none, k H0 H (JH.refl j.same)⟩
  | some h => exact ⟨_, po_some pe_star, h B0 B σ H0 H _ j fun v H0' H' g r => ⟨_, r, k H0' H' g⟩⟩
def cutD (xs : List D) (lo hi : Option Int) : List D := (xs.drop (HT.sIx xs.length 0 lo)).take (HT.sIx xs.length xs.length hi - HT.sIx xs.length 0 lo)
theorem DRs.cut {K : PySem.W.Frag} {H : Hp} {ds : List D} {vs : List V} (h : DRs K H ds vs) (lo hi : Option Int) : DRs K H (cutD ds lo hi) (cutV vs lo hi) := by
  unfold cutD cutV
  rw [← DRs.length h]
  exact DRs.take _ (DRs.drop _ h)
theorem eo_slice {e : Expr} {lo hi : Option Expr} {p q : Option Int} {ds : List D} {p2 pos : Pos} (he : ED X ρ e (.lst ds)) (hl : Part X ρ lo p) (hh : Part X ρ hi q) : EO X ρ (.Subscript e (.Slice lo hi none p2) pos) (.lst (cutD ds p q)) := fun B0 B σ H0 H Q j k =>
  RE.of (pe_slice sl_list pe_star po_star po_star) (he B0 B σ H0 H _ j fun v G0 G g1 r => hl.run (j.grow g1) fun L0 L g2 => hh.run ((j.grow g1).grow g2) fun M0 M g3 => by
    obtain ⟨a, vs, rfl, h1, h2⟩ := r
    have g := g2.trans g3
    exact ⟨a, vs, rfl, g.sh.seq (g.s0.seq h1), fun p hp => k p _ M0 _ ((g1.trans g).trans (JH.own g.sh hp)) upd_same (g.sh.free hp) ((g1.trans g).sB.free hp) ⟨_, rfl, DRs.cut (DRs.mono g.s0 _ _ h2) _ _⟩⟩)
theorem rngD0 (n : Nat) : rngD 0 n = (List.range n).map fun (i : Nat) => D.int (i : Int) := by
  unfold rngD
  refine List.map_congr_left fun i _ => ?_
  rw [Int.zero_add]
/-- some slots changed -/
def upds (ρ : En) (l : List (Nat × Sl)) : En := l.foldl (fun r p => r.set p.1 p.2) ρ
/-- for x in xs: what changes from turn to turn is told slot by slot: G, of the turn and of what one doesn't care for (V reads it off) -/
theorem ws_forU {α U : Type} {tg iter : Expr} {ds : List D} {pos : Pos} {Φ : Out → Prop} (xs : List α) (enc : α → D) {body : List Stmt} (hc : X.calm = true) (hi : ID X ρ tg iter ds) (he : ds = xs.map enc) (G : Nat → U → List (Nat × Sl)) (V : En → U) (P : Nat → Prop) (hρ : upds ρ (G 0 (V ρ)) = ρ) (h0 : P 0)
    (hs : ∀ i x u, xs[i]? = some x → P i → ∃ is ρ'', DG X is tg (enc x) (upds ρ (G i u)) ρ'' ∧ WSs X body ρ'' (fun o => match o with | .nx r => upds ρ (G (i + 1) (V r)) = r ∧ P (i + 1) | .ct r => upds ρ (G (i + 1) (V r)) = r ∧ P (i + 1) | .bk r => Φ (.nx r) | .rt v => Φ (.rt v) | .ro c => Φ (.ro c) | .rc v cs => Φ (.rc v cs)))
    (hd : ∀ u, P xs.length → Φ (.nx (upds ρ (G xs.length u))))
    (hp : PassesOwn (model X.prog X.w) X.A X.env X.xe := by exact PassesOwn.never) (hf : ∀ x, foldedSetIterable iter X.env x = pure x := by intro _; rfl) : WS X (.For tg iter body [] pos) ρ Φ := by
  refine ws_forT xs enc hc hi he (fun i r => (∃ u, upds ρ (G i u) = r) ∧ P i) ⟨⟨V ρ, hρ⟩, h0⟩ (fun i x r hx hI => ?_) (fun r hI => ?_) hp hf
  · obtain ⟨⟨u, rfl⟩, p⟩ := hI
    obtain ⟨is, r2, h1, h2⟩ := hs i x u hx p
    refine ⟨is, r2, h1, ws_mono h2 fun o ho => ?_⟩
    cases o with
    | nx r => exact ⟨⟨_, ho.1⟩, ho.2⟩
    | ct r => exact ⟨⟨_, ho.1⟩, ho.2⟩
    | bk r => exact ho
    | rt v => exact ho
    | ro c => exact ho
    | rc v cs => exact ho
  · obtain ⟨⟨u, rfl⟩, p⟩ := hI
    exact hd u p
end
theorem bb_len : bootBuiltins (PySem.Str.ofString "len") = some (.builtin "len") := by decide +kernel
theorem bb_max : bootBuiltins (PySem.Str.ofString "max") = some (.builtin "max") := by decide +kernel
theorem bb_all : bootBuiltins (PySem.Str.ofString "all") = some (.builtin "all") := by decide +kernel
theorem bb_isinstance : bootBuiltins (PySem.Str.ofString "isinstance") = some (.builtin "isinstance") := by decide +kernel
theorem bb_int : bootBuiltins (PySem.Str.ofString "int") = some (.type "int") := by decide +kernel
theorem bb_tuple : bootBuiltins (PySem.Str.ofString "tuple") = some (.type "tuple") := by decide +kernel
theorem bb_list : bootBuiltins (PySem.Str.ofString "list") = some (.type "list") := by decide +kernel
theorem bb_str : bootBuiltins (PySem.Str.ofString "str") = some (.type "str") := by decide +kernel
theorem bb_bool : bootBuiltins (PySem.Str.ofString "bool") = some (.type "bool") := by decide +kernel
theorem bb_set : bootBuiltins (PySem.Str.ofString "set") = some (.type "set") := by decide +kernel
end DL
namespace DL
open PySem PySem.Spec PyProof.Rows L2
/-- data of ints and short texts, n deep -/
def smallStr (x : Str) : Prop := PyData.strOk x = true
inductive Cm : Nat → D → Prop where
  | int {n i} : Cm n (.int i)
  | str {n x} (h : smallStr x) : Cm n (.str x)
  | tup {n ds} (h : ∀ d ∈ ds, Cm n d) : Cm (n + 1) (.tup ds)
  | lst {n ds} (h : ∀ d ∈ ds, Cm n d) : Cm (n + 1) (.lst ds)
theorem Cm.mono {n m : Nat} (h : n ≤ m) {d : D} (c : Cm n d) : Cm m d := by
  induction c generalizing m with
  | int => exact .int
  | str q => exact .str q
  | tup _ ih =>
    obtain ⟨m, rfl⟩ : ∃ m', m = m' + 1 := ⟨m - 1, by omega⟩
    exact .tup fun d hd => ih d hd (by omega)
  | lst _ ih =>
    obtain ⟨m, rfl⟩ : ∃ m', m = m' + 1 := ⟨m - 1, by omega⟩
    exact .lst fun d hd => ih d hd (by omega)
theorem plains_iff : ∀ {ds : List D}, (∀ d ∈ ds, d.plain = true) → D.plains ds = true
  | [], _ => by simp [D.plains]
  | d :: ds, h => by simp only [D.plains, Bool.and_eq_true]; exact ⟨h d (by simp), plains_iff fun e he => h e (by simp [he])⟩
theorem lays_iff : ∀ {ds : List D}, (∀ d ∈ ds, d.py.canLay0 = true) → PyData.canLayAll0 (D.pys ds) = true
  | [], _ => by simp [D.pys, PyData.canLayAll0]
  | d :: ds, h => by simp only [D.pys, PyData.canLayAll0, Bool.and_eq_true]; exact ⟨h d (by simp), lays_iff fun e he => h e (by simp [he])⟩
theorem depths_le : ∀ {ds : List D} {n : Nat}, (∀ d ∈ ds, d.py.depth ≤ n) → PyData.depthAll (D.pys ds) ≤ n
  | [], n, _ => by simp [D.pys, PyData.depthAll]
  | d :: ds, n, h => by
    simp only [D.pys, PyData.depthAll]
    have h1 := h d (by simp)
    have h2 := depths_le (ds := ds) (n := n) fun e he => h e (by simp [he])
    omega
theorem Cm.plain {n : Nat} {d : D} (c : Cm n d) : d.plain = true := by
  induction c with
  | int => simp [D.plain]
  | str _ => simp [D.plain]
  | tup _ ih => simp only [D.plain]; exact plains_iff ih
  | lst _ ih => simp only [D.plain]; exact plains_iff ih
theorem Cm.lay {n : Nat} {d : D} (c : Cm n d) : d.py.canLay0 = true := by
  induction c with
  | int => simp [D.py, PyData.canLay0]
  | str h => simp only [D.py, PyData.canLay0]; exact h
  | tup _ ih => simp only [D.py, PyData.canLay0]; exact lays_iff ih
  | lst _ ih => simp only [D.py, PyData.canLay0]; exact lays_iff ih
theorem Cm.depth {n : Nat} {d : D} (c : Cm n d) : d.py.depth ≤ n + 1 := by
  induction c with
  | int => simp [D.py, PyData.depth]
  | str _ => simp [D.py, PyData.depth]
  | tup _ ih => simp only [D.py, PyData.depth]; have := depths_le ih; omega
  | lst _ ih => simp only [D.py, PyData.depth]; have := depths_le ih; omega
theorem Cm.cmp {n : Nat} {d : D} (c : Cm n d) (hn : n ≤ 63) : Cmp d := ⟨c.plain, by
  unfold SeqAt.shaped
  rw [c.lay]
  have := c.depth
  simp; omega⟩
theorem Cm.inv {n : Nat} {d : D} (c : Cm n d) : (∃ i, d = .int i) ∨ (∃ x, d = .str x) ∨ (∃ ds m, d = .tup ds ∧ n = m + 1 ∧ ∀ e ∈ ds, Cm m e) ∨ (∃ ds m, d = .lst ds ∧ n = m + 1 ∧ ∀ e ∈ ds, Cm m e) := by
  cases c with
  | int => exact .inl ⟨_, rfl⟩
  | str _ => exact .inr (.inl ⟨_, rfl⟩)
  | tup h => exact .inr (.inr (.inl ⟨_, _, rfl, rfl, h⟩))
  | lst h => exact .inr (.inr (.inr ⟨_, _, rfl, rfl, h⟩))
theorem eqvs_iff {n m : Nat} (ih : ∀ d e, Cm n d → Cm m e → (PyData.eqv d.py e.py = true ↔ d = e)) : ∀ (ds es : List D), (∀ d ∈ ds, Cm n d) → (∀ e ∈ es, Cm m e) → (PyData.eqvAll (D.pys ds) (D.pys es) = true ↔ ds = es)
  | [], [], _, _ => by simp [D.pys, PyData.eqvAll]
  | [], e :: es, _, _ => by simp [D.pys, PyData.eqvAll]
  | d :: ds, [], _, _ => by simp [D.pys, PyData.eqvAll]
  | d :: ds, e :: es, h1, h2 => by
    have h3 := eqvs_iff ih ds es (fun x hx => h1 x (by simp [hx])) (fun x hx => h2 x (by simp [hx]))
    have h4 := ih d e (h1 d (by simp)) (h2 e (by simp))
    simp only [D.pys, PyData.eqvAll, Bool.and_eq_true, h3, h4, List.cons.injEq]
theorem eqv_iff : ∀ (n m : Nat) (d e : D), Cm n d → Cm m e → (PyData.eqv d.py e.py = true ↔ d = e)
  | n, m, d, e, c, c' => by
    rcases c.inv with ⟨i, rfl⟩ | ⟨x, rfl⟩ | ⟨ds, k, rfl, rfl, h⟩ | ⟨ds, k, rfl, rfl, h⟩ <;> rcases c'.inv with ⟨j, rfl⟩ | ⟨y, rfl⟩ | ⟨es, l, rfl, rfl, h'⟩ | ⟨es, l, rfl, rfl, h'⟩
    · simp [D.py, PyData.eqv]
    · simp [D.py, PyData.eqv]
    · simp [D.py, PyData.eqv]
    · simp [D.py, PyData.eqv]
    · simp [D.py, PyData.eqv]
    · simp [D.py, PyData.eqv]
    · simp [D.py, PyData.eqv]
    · simp [D.py, PyData.eqv]
    · simp [D.py, PyData.eqv]
    · simp [D.py, PyData.eqv]
    · simp only [D.py, PyData.eqv, D.tup.injEq]
      exact eqvs_iff (fun d e c c' => eqv_iff k l d e c c') ds es h h'
    · simp [D.py, PyData.eqv]
    · simp [D.py, PyData.eqv]
    · simp [D.py, PyData.eqv]
    · simp [D.py, PyData.eqv]
    · simp only [D.py, PyData.eqv, D.lst.injEq]
      exact eqvs_iff (fun d e c c' => eqv_iff k l d e c c') ds es h h'
theorem Cm.ints {n : Nat} {ns : List Int} : ∀ d ∈ ns.map D.int, Cm n d := fun d hd => by
  obtain ⟨i, _, rfl⟩ := List.mem_map.mp hd
  exact .int
section
variable {X : Cx} {ρ : En}
theorem c2_eqC {n m : Nat} {d e : D} {k : Bool} (hu : X.A.units + 64 < cLine) (c : Cm n d) (c' : Cm m e) (hk : k = true ↔ d = e) (hn : n ≤ 63 := by decide) (hm : m ≤ 63 := by decide) : C2 X .Eq d e (.bl k) := by
  refine c2_eqD hu (c.cmp hn) (c'.cmp hm) ?_
  have h := eqv_iff n m d e c c'
  cases k with
  | true => exact h.mpr (hk.mp rfl)
  | false =>
    cases q : PyData.eqv d.py e.py with
    | false => rfl
    | true => exact absurd (hk.mpr (h.mp q)) (by simp)
theorem c2_neC {n m : Nat} {d e : D} {k : Bool} (hu : X.A.units + 64 < cLine) (c : Cm n d) (c' : Cm m e) (hk : k = true ↔ d = e) (hn : n ≤ 63 := by decide) (hm : m ≤ 63 := by decide) : C2 X .NotEq d e (.bl (!k)) := by
  refine c2_neD hu (c.cmp hn) (c'.cmp hm) ?_
  have h := eqv_iff n m d e c c'
  cases k with
  | true => exact h.mpr (hk.mp rfl)
  | false =>
    cases q : PyData.eqv d.py e.py with
    | false => rfl
    | true => exact absurd (hk.mpr (h.mp q)) (by simp)
def KD (K : PySem.W.Frag) (d : D) (u : Value) : Prop := ∃ v, RelV v u ∧ ∀ H, DR K H d v
def KDs (K : PySem.W.Frag) (ds : List D) (us : List Value) : Prop := ∃ vs, Vals vs us ∧ ∀ H, DRs K H ds vs
theorem kd_int {K : PySem.W.Frag} {i : Int} {t : Tok} : KD K (.int i) (.int i t) := ⟨.int i, ⟨t, rfl⟩, fun _ => rfl⟩
theorem kd_bl {K : PySem.W.Frag} {b : Bool} : KD K (.bl b) (.bool b) := ⟨.bl b, rfl, fun _ => rfl⟩
theorem kd_str {K : PySem.W.Frag} {x : Str} {t : Tok} : KD K (.str x) (.str x t) := ⟨.str x, ⟨t, rfl⟩, fun _ => rfl⟩
theorem kds_nil {K : PySem.W.Frag} : KDs K [] [] := ⟨[], .nil, fun _ => rfl⟩
theorem kds_cons {K : PySem.W.Frag} {d : D} {ds : List D} {u : Value} {us : List Value} (h : KD K d u) (r : KDs K ds us) : KDs K (d :: ds) (u :: us) := by
  obtain ⟨v, h1, h2⟩ := h
  obtain ⟨vs, h3, h4⟩ := r
  exact ⟨v :: vs, .cons h1 h3, fun H => ⟨v, vs, rfl, h2 H, h4 H⟩⟩
theorem kd_tup {K : PySem.W.Frag} {a : Addr} {o : Obj} {ds : List D} {its : Array Value} {n : Nat} (l : K.lookup a = some o) (c : o.cls = .type "tuple") (e : o.data = .seq its n) (z : its.size ≤ sizeLine) (r : KDs K ds its.toList) : KD K (.tup ds) (.ref a) := by
  obtain ⟨vs, h1, h2⟩ := r
  exact ⟨.ref a, rfl, fun H => ⟨a, vs, rfl, .inr ⟨o, its, n, l, c, e, z, h1⟩, h2 H⟩⟩
structure Cst (K : PySem.W.Frag) (mg : Str → Option Value) (x : Str) (d : D) : Prop where
  ex : ∃ u, mg x = some u ∧ KD K d u
theorem ed_const {x : Str} {d : D} {pos : Pos} (h : Cst X.K X.mg x d) (hg : Gl X x) (hd : (x == ("__debug__" : Str)) = false := by decide) : ED X ρ (.Name x pos) d := fun B0 B σ H0 H Q j k => by
  obtain ⟨u, h1, v, h2, h3⟩ := h.ex
  exact RE.of (pe_glob hg h1 h2 hd) (k v H0 H (JH.refl j.same) (h3 H0))
inductive KWs (X : Cx) (ρ : En) : List Keyword → List D → Prop where
  | nil : KWs X ρ [] []
  | cons {nm e p kws d ds} (h : ED X ρ e d) (r : KWs X ρ kws ds) : KWs X ρ (⟨nm, e, p⟩ :: kws) (d :: ds)
def RK (X : Cx) (kws : List Keyword) : TA := fun σ H Q => ∃ t, PK X kws t ∧ t σ H Q
theorem pk_star {kws} : PK X kws (RK X kws) := ⟨fun pos pins s σ H Q I ⟨_, h, q⟩ => h.run pos pins s σ H Q I q⟩
theorem KWs.run {kws : List Keyword} {ds : List D} (h : KWs X ρ kws ds) : ∀ {B0 B : Hp} {σ : L2.St} {H0 H : Hp} {Q : List V → Hp → Prop}, J X.K B0 B σ H0 H ρ → (∀ vs H0' H', JH H0 H H0' H' → DRs X.K H0' ds vs → Q vs H') → RK X kws σ H Q := by
  induction h with
  | nil => exact fun j k => ⟨_, pk_nil, k [] _ _ (JH.refl j.same) rfl⟩
  | cons h r ih =>
    intro B0 B σ H0 H Q j k
    exact ⟨_, pk_cons pe_star pk_star, h B0 B σ H0 H _ j fun v G0 G g1 r1 => ih (j.grow g1) fun vs L0 L g2 r2 => k (v :: vs) L0 L (g1.trans g2) ⟨v, vs, rfl, DR.mono g2.s0 _ _ r1, r2⟩⟩
end
section
variable {X : Cx} {ρ : En}
theorem ed_ifI {c a b : Expr} {k : Bool} {i j : Int} {pos : Pos} (h : TD X ρ c k) (h1 : k = true → ED X ρ a (.int i)) (h2 : k = false → ED X ρ b (.int j)) : ED X ρ (.IfExp c a b pos) (.int (if k = true then i else j)) :=
  ed_if h (fun e => by subst e; exact h1 rfl) (fun e => by subst e; exact h2 rfl)
end
section
variable {X : Cx}
theorem map_int_inj {ns ms : List Int} : ns.map D.int = ms.map D.int ↔ ns = ms := by
  constructor
  · intro h
    exact List.map_inj_right (f := D.int) (fun a b e => by cases e; rfl) |>.mp h
  · rintro rfl; rfl
theorem c2_eqInts {ns ms : List Int} (hu : X.A.units + 64 < cLine) : C2 X .Eq (.tup (ns.map .int)) (.tup (ms.map .int)) (.bl (decide (ns = ms))) :=
  c2_eqC (n := 1) (m := 1) hu (.tup Cm.ints) (.tup Cm.ints) (by simp [map_int_inj])
theorem c2_neInts {ns ms : List Int} (hu : X.A.units + 64 < cLine) : C2 X .NotEq (.tup (ns.map .int)) (.tup (ms.map .int)) (.bl (!decide (ns = ms))) :=
  c2_neC (n := 1) (m := 1) hu (.tup Cm.ints) (.tup Cm.ints) (by simp [map_int_inj])
theorem c2_eqIntsL {ns ms : List Int} (hu : X.A.units + 64 < cLine) : C2 X .Eq (.lst (ns.map .int)) (.lst (ms.map .int)) (.bl (decide (ns = ms))) :=
  c2_eqC (n := 1) (m := 1) hu (.lst Cm.ints) (.lst Cm.ints) (by simp [map_int_inj])
theorem c2_eq2 {a b c d : Int} (hu : X.A.units + 64 < cLine) : C2 X .Eq (.tup [.int a, .int b]) (.tup [.int c, .int d]) (.bl (decide ([a, b] = [c, d]))) := c2_eqInts (ns := [a, b]) (ms := [c, d]) hu
theorem c2_ne2 {a b c d : Int} (hu : X.A.units + 64 < cLine) : C2 X .NotEq (.tup [.int a, .int b]) (.tup [.int c, .int d]) (.bl (!decide ([a, b] = [c, d]))) := c2_neInts (ns := [a, b]) (ms := [c, d]) hu
theorem c2_eq4 {a b c d e f g h : Int} (hu : X.A.units + 64 < cLine) : C2 X .Eq (.tup [.int a, .int b, .int c, .int d]) (.tup [.int e, .int f, .int g, .int h]) (.bl (decide ([a, b, c, d] = [e, f, g, h]))) := c2_eqInts (ns := [a, b, c, d]) (ms := [e, f, g, h]) hu
theorem c2_ne4 {a b c d e f g h : Int} (hu : X.A.units + 64 < cLine) : C2 X .NotEq (.tup [.int a, .int b, .int c, .int d]) (.tup [.int e, .int f, .int g, .int h]) (.bl (!decide ([a, b, c, d] = [e, f, g, h]))) := c2_neInts (ns := [a, b, c, d]) (ms := [e, f, g, h]) hu
end
section
variable {X : Cx} {ρ ρ' : En}
section
variable {elt tg iter : Expr} {ifs : List Expr} {scope : Scope} {ds : List D} {cpos pos : Pos} {α β : Type} {Φ : Out → Prop}
/-- [f x for x in xs], the items of a kind -/
theorem eo_map2 (own : List (Str × Nat)) (xs : List α) (enc : α → D) (g : α → β) (enc2 : β → D) (hc : X.calm = true) (hN : X.N.Nodup) (ok : BlkOk X.N X.env.scope scope own) (hi : ID X ρ tg iter ds) (he : ds = xs.map enc) (turn : ∀ x ∈ xs, Turn1 X ρ scope (own.map (·.2)) tg elt ifs (enc x) (some (enc2 (g x)))) (hl : xs.length ≤ sizeLine)
    (hs : ∀ x, foldedSetIterable iter X.env x = pure x := by intro _; rfl) : EO X ρ (.ListComp elt [⟨tg, iter, ifs, 0⟩] scope cpos) (.lst ((xs.map g).map enc2)) := by
  have h := eo_map (cpos := cpos) own xs enc (fun x => enc2 (g x)) hc hN ok hi he turn hl hs
  rw [List.map_map]; exact h
theorem ws_setMap2 (i : Nat) (own : List (Str × Nat)) (xs : List α) (enc : α → D) (g : α → β) (enc2 : β → D) {y : Str} {py : Pos} (hc : X.calm = true) (hN : X.N.Nodup) (ok : BlkOk X.N X.env.scope scope own) (hi : ID X ρ tg iter ds) (he : ds = xs.map enc) (turn : ∀ x ∈ xs, Turn1 X ρ scope (own.map (·.2)) tg elt ifs (enc x) (some (enc2 (g x)))) (hl : xs.length ≤ sizeLine)
    (hΦ : Φ (.nx (ρ.set i (.ow (.lst ((xs.map g).map enc2)))))) (hy : X.N[i]? = some y := by rfl) (hyl : X.env.scope.names.lookup y = some .local := by rfl)
    (hsw : swapsWith (.ListComp elt [⟨tg, iter, ifs, 0⟩] scope cpos) (some (.Name y py)) pos.line X.env = pure true := by exact sw_true rfl rfl rfl (by decide +kernel)) (hs : ∀ x, foldedSetIterable iter X.env x = pure x := by intro _; rfl) :
    WS X (.Assign [.Name y py] (.ListComp elt [⟨tg, iter, ifs, 0⟩] scope cpos) pos) ρ Φ :=
  ws_setMap i own xs enc (fun x => enc2 (g x)) hc hN ok hi he turn hl (by rw [List.map_map] at hΦ; exact hΦ) hy hyl hsw hs
end
end
end DL
namespace DL
open PySem
/-- the k-th number of a script, 0 behind its end -/
def cellAt (ns : List Int) (k : Int) : Int := ns.getD k.toNat 0
def mix1 (c k : Int) : Int := (c * 48271 + (k + 1) * 69621) % 2147483647
def mix2 (c k : Int) : Int := (mix1 c k * mix1 c k + mix1 c k * 16807 + k * 7919) % 2147483629
def mix3 (c k : Int) : Int := (mix2 c k * mix2 c k + c + 13 * k) % 2147483587
def drawStep (c : Int) (a : List Int × Int) (k : Nat) : List Int × Int :=
  if 1000000000000000000 ≤ c ∧ 0 < a.2 then (a.1 ++ [a.2 % 4096], a.2 / 4096) else (a.1 ++ [mix3 c k / 7 % 4096], a.2)
def drawn (c : Int) (n : Nat) : List Int × Int := (List.range n).foldl (drawStep c) ([], c)
def draws (c n : Int) : List Int := (drawn c n.toNat).1
theorem drawn_succ (c : Int) (n : Nat) : drawn c (n + 1) = drawStep c (drawn c n) n := by
  unfold drawn; rw [List.range_succ, List.foldl_append]; rfl
theorem draws_spec (c : Int) : ∀ n, (drawn c n).1.length = n ∧ ∀ x ∈ (drawn c n).1, 0 ≤ x ∧ x < 4096
  | 0 => by simp [drawn]
  | n + 1 => by
    obtain ⟨h1, h2⟩ := draws_spec c n
    rw [drawn_succ]
    unfold drawStep
    split
    · refine ⟨by simp [h1], fun x hx => ?_⟩
      simp only [List.mem_append, List.mem_singleton] at hx
      rcases hx with hx | rfl
      · exact h2 x hx
      · omega
    · refine ⟨by simp [h1], fun x hx => ?_⟩
      simp only [List.mem_append, List.mem_singleton] at hx
      rcases hx with hx | rfl
      · exact h2 x hx
      · omega
theorem draws_len (c n : Int) : (draws c n).length = n.toNat := (draws_spec c _).1
/-- the k-th draw -/
def dr (c n k : Int) : Int := (draws c n).getD k.toNat 0
theorem dr_get {c n k : Int} (h0 : 0 ≤ k) (h : k < n) : (draws c n)[k.toNat]? = some (dr c n k) := by
  unfold dr
  have : k.toNat < (draws c n).length := by rw [draws_len]; omega
  simp [this]
theorem dr_lo (c n k : Int) : 0 ≤ dr c n k ∧ dr c n k < 4096 := by
  unfold dr
  rw [List.getD_eq_getElem?_getD]
  cases q : (draws c n)[k.toNat]? with
  | none => simp
  | some x => exact (draws_spec c _).2 _ (List.mem_of_getElem? q)
/-- an item of a list of numbers -/
theorem at_ints {ns : List Int} {i : Int} {k : Nat} {x : Int} (e : i = k) (h : ns[k]? = some x) : L2.atI (ns.map D.int) i = some (.int x) := by
  subst e
  exact L2.atI_nat (by rw [List.getElem?_map, h]; rfl)
theorem at_draws {c n i : Int} (h0 : 0 ≤ i) (h : i < n) : L2.atI ((draws c n).map D.int) i = some (.int (dr c n i)) :=
  at_ints (k := i.toNat) (by omega) (dr_get h0 h)
def tC (t : Int) : Int := if t = 1 then 1 else if t = 3 then -1 else if t = 5 then -1 else if t = 7 then 1 else 0
def tD (t : Int) : Int := if t = 0 then 1 else if t = 2 then -1 else if t = 4 then 1 else if t = 6 then -1 else 0
def ty (t x y : Int) : Int := tC t * x + tD t * y
def ct (f s : Int) : Int := (if 4 ≤ s then s - f else s + f) % 4 + (if ((4 ≤ f) ↔ (4 ≤ s)) then 0 else 4)
def inv (t : Int) : Int := if 4 ≤ t then t else (4 - t) % 4
structure Bx where
  a : Int
  b : Int
  c : Int
  d : Int
  deriving DecidableEq
def Bx.e (x : Bx) : D := .tup [.int x.a, .int x.b, .int x.c, .int x.d]
theorem Bx.inj {x y : Bx} (h : x.e = y.e) : x = y := by
  cases x; cases y
  simp only [Bx.e, D.tup.injEq, List.cons.injEq, D.int.injEq] at h
  simp [h.1, h.2.1, h.2.2.1, h.2.2.2.1]
theorem Bx.cm (x : Bx) : Cm 1 x.e := .tup (Cm.ints (ns := [x.a, x.b, x.c, x.d]))
theorem Bx.cms {bs : List Bx} : ∀ d ∈ bs.map Bx.e, Cm 1 d := fun d hd => by
  obtain ⟨x, _, rfl⟩ := List.mem_map.mp hd
  exact x.cm
end DL
namespace DL
open PySem PySem.Spec PyProof.Rows L2
abbrev Sq := Int × Int
def kq (p : Sq) : List Key := [.inl p.1, .inl p.2]
def dicD (ks : List Sq) : OC := .dt (ks.map kq) ((ks.map fun _ => true).map D.bl)
theorem kq_inj {p q : Sq} : kq p = kq q ↔ p = q := by
  constructor
  · intro h
    simp only [kq, List.cons.injEq, Sum.inl.injEq, and_true] at h
    exact Prod.ext h.1 h.2
  · rintro rfl; rfl
def tT (ks : List Sq) : List (List Key × V) := ks.map fun q => (kq q, V.bl true)
theorem zipT (ks : List Sq) : (ks.map kq).zip ((ks.map fun _ => true).map V.bl) = tT ks := by
  induction ks with
  | nil => rfl
  | cons k ks ih => simp only [List.map_cons, List.zip_cons_cons, ih]; rfl
theorem tT_any (ks : List Sq) (p : Sq) : ((tT ks).any fun kv => decide (kv.1 = kq p)) = decide (p ∈ ks) := by
  induction ks with
  | nil => rfl
  | cons k ks ih =>
    have e : tT (k :: ks) = (kq k, V.bl true) :: tT ks := rfl
    rw [e, List.any_cons, ih, Bool.eq_iff_iff]
    simp only [Bool.or_eq_true, decide_eq_true_eq, List.mem_cons, kq_inj]
    exact or_congr ⟨Eq.symm, Eq.symm⟩ Iff.rfl
theorem tT_val (ks : List Sq) (p : Sq) : (valV (tT ks) (kq p)).isSome = decide (p ∈ ks) := by
  rw [← valV_any, tT_any]
theorem dr_dic {K : PySem.W.Frag} {H0 : Hp} {ks : List Sq} {v : V} (h : DR K H0 (dicD ks).d v) : ∃ a, v = .ref a ∧ Rd H0 a (.dT (tT ks)) := by
  obtain ⟨a, vs, rfl, h1, hl, r⟩ := h
  rw [DRs.bls r, zipT] at h1
  exact ⟨a, rfl, h1⟩
section
variable {X : Cx} {ρ : En} {Φ : Out → Prop} {pos : Pos}
/-- square in d -/
theorem op_inSq (hu : X.A.units + 1 < cLine) : OpR X (compareOp .In) (fun x y H Q => ∃ (a b : Addr) (kvs : List (List Key × V)) (k : List Key), x = .ref b ∧ y = .ref a ∧ Rd H a (.dT kvs) ∧ SqT X.K H b (k.map kV) ∧ Q (.bl (valV kvs k).isSome) H) := by
  rintro pins s σ H x y v u Q I rx ry ⟨a, b, kvs, k, rfl, rfl, h1, h2, q⟩
  cases (show v = Value.ref b from rx); cases (show u = Value.ref a from ry)
  obtain ⟨z, hd, xs, rel, dd⟩ := dt_rd I.hok h1
  obtain ⟨its, r, ⟨o, e, c, n, dat⟩, _⟩ := I.tuple h2
  refine wpAny_in_heap (tupleKind_room_in1 hu) (k := k) ⟨o, its.toArray, n, e, c, dat, by simpa using items_are r⟩ hd dd ?_
  have qq := (rel.val k).isSome_eq
  rw [Option.isSome_map] at qq
  rw [← qq]
  exact ⟨.bl (valV kvs k).isSome, H, I.tok _, rfl, q⟩
theorem c2_inSq {p1 p2 : Int} {ks : List Sq} (hu : X.A.units + 64 < cLine) : C2 X .In (.tup [.int p1, .int p2]) (dicD ks).d (.bl (decide ((p1, p2) ∈ ks))) := ⟨_, op_inSq (by omega), fun H0 H x y Q s r1 r2 kk => by
  obtain ⟨b, vs, rfl, h1, r⟩ := r1
  obtain ⟨v, w, rfl, e1, e2⟩ := r.two
  cases (show v = .int p1 from e1); cases (show w = .int p2 from e2)
  obtain ⟨a, rfl, h2⟩ := dr_dic r2
  exact ⟨a, b, _, kq (p1, p2), rfl, rfl, Same.rd s h2, Same.seqT s h1, kk _ H0 H (JH.refl s) (by rw [tT_val]; rfl)⟩⟩
end
end DL
namespace DL
open PySem
def sel3 (p q r m : Int) : Int := if m = 0 then p else if m = 1 then q else r
theorem ix_sel3 {p q r m : Int} (h : 0 ≤ m ∧ m < 3) : IX (.lst [.int p, .int q, .int r]) (.int m) (.int (sel3 p q r m)) := by
  have : m = 0 ∨ m = 1 ∨ m = 2 := by omega
  rcases this with rfl | rfl | rfl
  · exact IX.l0
  · exact IX.l1
  · exact IX.l2
end DL
namespace DL
open PySem PySem.Spec PyProof.Rows L2
section
variable {X : Cx} {ρ ρ' : En}
/-- z[i], z a text -/
theorem ed_ixS {a b : Expr} {z : Str} {i : Int} {c : Nat} {pos : Pos} (ha : ED X ρ a (.str z)) (hb : ED X ρ b (.int i)) (hz : z.length ≤ sizeLine) (h : atI z.cps.toList i = some c) (hs : PlainIx b := by exact fun _ _ => rfl) : ED X ρ (.Subscript a b pos) (.str ⟨#[c]⟩) := fun B0 B σ H0 H Q j kk => by
  refine RE.of (pe_ix ix_str pe_star pe_star hs) (ha B0 B σ H0 H _ j fun x G0 G g1 r1 => hb B0 B σ G0 G _ (j.grow g1) fun y L0 L g2 r2 => ?_)
  exact ⟨z, i, c, r1, r2, hz, h, kk _ L0 L (g1.trans g2) rfl⟩
theorem DG.mono {is is' : List Nat} {tg : Expr} {d : D} (h : DG X is tg d ρ ρ') (hi : ∀ k ∈ is, k ∈ is') : DG X is' tg d ρ ρ' := fun B0 B σ H0 H v Q j r k =>
  h B0 B σ H0 H v Q j r fun σ' j' off => k σ' j' fun m hm => off m fun z => hm (hi m z)
end
end DL
namespace DL
open PySem PySem.Spec PyProof.Rows L2
/-- c stands at a, and some slot owns it -/
structure Cell (ρ : En) (a : Addr) (c : OC) : Prop where
  ex : ∃ (i : Nat) (cs : List (Addr × OC)) (d : D), ρ[i]? = some (.ox cs d) ∧ (a, c) ∈ cs
section
variable {K : PySem.W.Frag} {B0 B H0 H : Hp} {σ : L2.St} {ρ : En}
theorem J.at (j : J K B0 B σ H0 H ρ) {a : Addr} {c : OC} (h : Cell ρ a c) : ∃ o, H a = some o ∧ H0 a = none ∧ B a = none ∧ OCR K H0 c o := by
  obtain ⟨i, cs, d, h1, h2⟩ := h.ex
  exact j.cell h1 h2
end
section
variable {X : Cx} {ρ : En} {Φ : Out → Prop} {e a b : Expr} {pos : Pos} {d : D} {rest : List Stmt}
theorem ed_varX (i : Nat) {x : Str} {cs : List (Addr × OC)} (hρ : ρ[i]? = some (.ox cs d)) (hN : X.N[i]? = some x := by rfl) (hv : Vis X.env.scope x := by first | exact Or.inl rfl | exact Or.inr (Or.inl rfl) | exact Or.inr (Or.inr rfl)) (hd : (x == ("__debug__" : Str)) = false := by decide)
    (hcd : (x == ("__classdict__" : Str)) = false := by decide) : ED X ρ (.Name x pos) d := fun B0 B σ H0 H Q j k => by
  obtain ⟨ov, h1, ⟨v, rfl, h2⟩, _⟩ := j.get hρ
  exact RE.of (pe_var hN hv hd hcd) ⟨v, h1, k v H0 H (JH.refl j.same) h2⟩
/-- e.append(f), e a list at a place -/
theorem ws_appendA (i : Nat) {p : Addr} {cs : List (Addr × OC)} {d0 : D} {ds : List D} {p2 p3 : Pos} (hi : ρ[i]? = some (.ox cs d0)) (hm : (p, OC.lst ds) ∈ cs) (ha : ED X ρ a (.ad p)) (he : ED X ρ e d) (hl : ds.length < sizeLine) (hΦ : Φ (.nx (ρ.set i (.ox (putC cs p (.lst (ds ++ [d]))) d0))))
    (hpe : ∀ {to : TE} {ta : TA}, PE X a to → PA X [e] ta → PS X (.Expr (.Call (.Attribute a "append" p2) [e] [] p3) pos) (tDrop (tBM X.K "list" rAppend to ta))) (hs : starEach [e] X.env = (false, eval e X.env) :: starEach [] X.env := by rfl) :
    WS X (.Expr (.Call (.Attribute a "append" p2) [e] [] p3) pos) ρ Φ := fun B0 B σ H0 H Dn j k => by
  refine ⟨_, hpe pe_star pa_star, ha B0 B σ H0 H _ j fun v G0 G g r => ?_⟩
  cases (show v = .ref p from r)
  obtain ⟨o, h1, h2, h3, vs, rfl, r⟩ := (j.grow g).cell hi hm
  refine ⟨Or.inl ⟨rfl, _, Or.inl (Or.inl h1)⟩, ad_cons (X := X) he ad_nil hs B0 B σ G0 G _ (j.grow g) fun ws L0 L g2 rr => ?_⟩
  obtain ⟨y, rfl, ry⟩ := rr.one'
  have j1 := (j.grow g).grow g2
  obtain ⟨o', h1', h2', h3', vs', rfl, r'⟩ := j1.cell hi hm
  exact ⟨p, vs', y, rfl, rfl, h1', by rw [← DRs.length r']; exact hl, k _ hΦ _ L0 _ (j1.put hi hm ⟨_, rfl, DRs.app r' (DRs.one ry)⟩)⟩
end
end DL
namespace DL
abbrev Seg (α : Type) := Int × Int × α
section
variable {α : Type} [DecidableEq α] {e : α}
def segVal (e : α) : List (Seg α) → Int → α
  | [], _ => e
  | s :: t, y => if s.1 ≤ y ∧ y < s.2.1 then s.2.2 else segVal e t y
/-- one behind the other, not to be made one -/
def link (s s' : Seg α) : Prop := s.2.1 ≤ s'.1 ∧ (s.2.1 = s'.1 → s.2.2 ≠ s'.2.2)
def okS (e : α) (s : Seg α) : Prop := s.1 < s.2.1 ∧ s.2.2 ≠ e
inductive Can (e : α) : List (Seg α) → Prop where
  | nil : Can e []
  | one {s} (h : okS e s) : Can e [s]
  | cons {s s' t} (h : okS e s) (hl : link s s') (ht : Can e (s' :: t)) : Can e (s :: s' :: t)
theorem Can.head {s : Seg α} {t : List (Seg α)} (h : Can e (s :: t)) : okS e s := by
  cases h with
  | one h => exact h
  | cons h _ _ => exact h
theorem Can.tail {s : Seg α} {t : List (Seg α)} (h : Can e (s :: t)) : Can e t := by
  cases h with
  | one h => exact .nil
  | cons _ _ h => exact h
theorem Can.ok {l : List (Seg α)} (h : Can e l) : ∀ p ∈ l, okS e p := by
  induction l with
  | nil => intro p hp; simp at hp
  | cons s t ih =>
    intro p hp
    rcases List.mem_cons.mp hp with rfl | hp
    · exact h.head
    · exact ih h.tail p hp
end
end DL
namespace DL
abbrev Asc (es : List Int) : Prop := es.Pairwise (· < ·)
structure EOk (es : List Int) : Prop where
  asc : Asc es
  even : es.length % 2 = 0
theorem eok_nil : EOk [] := ⟨List.Pairwise.nil, rfl⟩
end DL
namespace DL
open PySem PySem.Spec PyProof.Rows L2
def LeQ (a b : Sq) : Prop := a.1 < b.1 ∨ (a.1 = b.1 ∧ a.2 ≤ b.2)
instance (a b : Sq) : Decidable (LeQ a b) := by unfold LeQ; infer_instance
inductive All2 {α β : Type} (r : α → β → Prop) : List α → List β → Prop where
  | nil : All2 r [] []
  | cons {a b as bs} (h : r a b) (t : All2 r as bs) : All2 r (a :: as) (b :: bs)
theorem All2.len {α β : Type} {r : α → β → Prop} {as : List α} {bs : List β} (h : All2 r as bs) : as.length = bs.length := by
  induction h with
  | nil => rfl
  | cons _ _ ih => simp [ih]
theorem All2.imp {α β : Type} {r q : α → β → Prop} {as : List α} {bs : List β} (h : All2 r as bs) (i : ∀ a b, r a b → q a b) : All2 q as bs := by
  induction h with
  | nil => exact .nil
  | cons h _ ih => exact .cons (i _ _ h) ih
theorem All2.get {α β : Type} {r : α → β → Prop} : ∀ {as : List α} {bs : List β} {j : Nat} {a : α} {b : β}, All2 r as bs → as[j]? = some a → bs[j]? = some b → r a b
  | _, _, j, _, _, .nil, h, _ => by simp at h
  | _, _, 0, _, _, .cons h t, h1, h2 => by simp at h1 h2; subst h1 h2; exact h
  | _, _, j + 1, _, _, .cons h t, h1, h2 => All2.get (j := j) t (by simpa using h1) (by simpa using h2)
end DL
namespace DL
abbrev Row := Seg (List Int)
structure ROk (R : List Row) : Prop where
  can : Can [] R
  ed : ∀ p ∈ R, EOk p.2.2
def rowAt (R : List Row) (y : Int) : List Int := segVal [] R y
theorem segVal_mem {α : Type} {e : α} : ∀ {l : List (Seg α)} {y : Int}, segVal e l y = e ∨ ∃ p ∈ l, p.1 ≤ y ∧ y < p.2.1 ∧ p.2.2 = segVal e l y
  | [], y => .inl rfl
  | s :: t, y => by
    unfold segVal
    by_cases h : s.1 ≤ y ∧ y < s.2.1
    · rw [if_pos h]; exact .inr ⟨s, List.mem_cons_self, h.1, h.2, rfl⟩
    · rw [if_neg h]
      rcases segVal_mem (e := e) (l := t) (y := y) with h | ⟨p, h1, h2⟩
      · exact .inl h
      · exact .inr ⟨p, List.mem_cons_of_mem _ h1, h2⟩
theorem ROk.row {R : List Row} (h : ROk R) (y : Int) : EOk (rowAt R y) := by
  rcases segVal_mem (e := ([] : List Int)) (l := R) (y := y) with e | ⟨p, h1, _, _, e⟩
  · unfold rowAt; rw [e]; exact eok_nil
  · unfold rowAt; rw [← e]; exact h.ed p h1
end DL
namespace DL
open PySem PySem.Spec PyProof.Rows L2
/-- a set just made -/
abbrev nSet (w : World) : Obj := { cls := .type "set", dict := none, data := .set #[] 0 (.fresh 0 0 (!w.params.followText "set-order")) }
end DL
namespace DL
open PySem PySem.Spec PyProof.Rows L2
open PySem.W (EachIs AllAlike Sortable KeepsBut SortsAt KeyedOut dataLe dataKind alike)
section
variable {X : Cx} {pins : List (Addr × Obj)} {σ : L2.St} {H : Hp} {s : Shared} {β : Type} {bs : List β} {enc kd : β → D} {R : List D → D → Prop} {k : Nat} {f : Addr}
variable {ρ : En}
/-- a list or a tuple -/
inductive SeqD : D → List D → Prop where
  | lst (ds) : SeqD (.lst ds) ds
  | tup (ds) : SeqD (.tup ds) ds
end
end DL
namespace DL
open PySem PySem.Spec PyProof.Rows L2
section
variable {X : Cx} {ρ : En} {Φ : Out → Prop} {e a b c : Expr} {pos : Pos} {d : D}
/-- while -/
theorem ws_whileU {γ U : Type} {body : List Stmt} (G : γ → U → List (Nat × Sl)) (V : En → U) (P : γ → Prop) (μ : γ → Nat) (g0 : γ) (hρ : upds ρ (G g0 (V ρ)) = ρ) (h0 : P g0)
    (hs : ∀ g u, P g → ∃ t, TD X (upds ρ (G g u)) c t ∧ (t = true → WSs X body (upds ρ (G g u)) (fun o => match o with | .nx r => ∃ g', upds ρ (G g' (V r)) = r ∧ P g' ∧ μ g' < μ g | .ct r => ∃ g', upds ρ (G g' (V r)) = r ∧ P g' ∧ μ g' < μ g | .bk r => Φ (.nx r) | .rt v => Φ (.rt v) | .ro c => Φ (.ro c) | .rc v cs => Φ (.rc v cs))) ∧ (t = false → Φ (.nx (upds ρ (G g u)))))
    (hp : PassesOwn (model X.prog X.w) X.A X.env X.xe := by exact PassesOwn.never) : WS X (.While c body [] pos) ρ Φ := fun B0 B σ H0 H Dn j k => by
  refine ⟨_, ps_while hp pt_star pss_star, fun m σ1 H1 => ∃ g u L0, m = μ g ∧ P g ∧ J X.K H0 B σ1 L0 H1 (upds ρ (G g u)), ⟨μ g0, g0, V ρ, H0, rfl, h0, by rw [hρ]; exact j.rebase⟩, ?_⟩
  rintro m σ1 H1 ⟨g, u, L0, rfl, p, j1⟩
  obtain ⟨t, ht, h1, h2⟩ := hs g u p
  refine ht H0 B σ1 L0 H1 _ j1 fun L1 H2 g1 => ?_
  cases t with
  | false => exact iteF (k _ (h2 rfl) σ1 L1 H2 (j.unbase (j1.grow g1)))
  | true =>
    refine iteT ⟨fun σ2 H3 => ∃ g' u' L0, μ g' < μ g ∧ P g' ∧ J X.K H0 B σ2 L0 H3 (upds ρ (G g' u')), fun σ2 H3 ⟨g', u', L2, hm, p', j'⟩ => ⟨μ g', hm, g', u', L2, rfl, p', j'⟩, ?_⟩
    refine h1 rfl H0 B σ1 L1 H2 _ (j1.grow g1) fun o ho => ?_
    cases o with
    | nx r => exact fun σ3 M0 M j3 => by obtain ⟨g', e1, p', hm⟩ := ho; exact ⟨g', V r, M0, hm, p', by rw [e1]; exact j3⟩
    | ct r => exact fun σ3 M0 M j3 => by obtain ⟨g', e1, p', hm⟩ := ho; exact ⟨g', V r, M0, hm, p', by rw [e1]; exact j3⟩
    | bk r => exact fun σ3 M0 M j3 => k _ ho σ3 M0 M (j.unbase j3)
    | rt v => exact fun v' M0 M g r => k _ ho v' M0 M ⟨j.hp.s0.trans g.s0, g.sh, g.sB, fun b u e n e' => g.fr b u e n (j.hp.fr b u e n e')⟩ r
    | ro c => exact fun a o M0 M g h1 h2 h3 r => k _ ho a o M0 M ⟨j.hp.s0.trans g.s0, g.sh, g.sB, fun b u e n e' => g.fr b u e n (j.hp.fr b u e n e')⟩ h1 h2 h3 r
    | rc v cs => exact fun a M0 M g h1 h2 r => k _ ho a M0 M ⟨j.hp.s0.trans g.s0, g.sh, g.sB, fun b u e n e' => g.fr b u e n (j.hp.fr b u e n e')⟩ h1 h2 r
/-- x += e, ints -/
theorem ws_aug (i : Nat) {x : Str} {pos' : Pos} {m n : Int} (hN : X.N.Nodup) (hi : ρ[i]? = some (.sh (.int m))) (he : ED X ρ e (.int n)) (hΦ : Φ (.nx (ρ.set i (.sh (.int (m + n)))))) (hx : X.N[i]? = some x := by rfl) (hl : Loc X.env.scope x := by first | exact Or.inl rfl | exact Or.inr rfl)
    (hf : X.fn x = true ∨ X.env.scope.names.lookup x = some .local := by first | exact .inl rfl | exact .inr rfl) : WS X (.AugAssign (.Name x pos') .Add e pos) ρ Φ := fun B0 B σ H0 H Dn j k => by
  obtain ⟨ov, e1, v, rfl, hv⟩ := j.get hi
  cases (show v = .int m from hv)
  refine ⟨_, ps_aug hN hx hl pe_star ip_add hf, _, e1, he B0 B σ H0 H _ j fun w G0 G g r => ?_⟩
  cases (show w = .int n from r)
  exact ⟨m, n, rfl, rfl, k _ hΦ _ G0 G ((j.grow g).setSh (d := .int (m + n)) rfl)⟩
end
end DL
namespace DL
open PySem PySem.Spec PyProof.Rows L2
section
variable {X : Cx} {ρ : En} {a b : Expr} {pos : Pos}
theorem op_catL : OpR X (binaryOp .Add) (fun x y H Q => ∃ (l m : Addr) (xs zs : List V), x = .ref l ∧ y = .ref m ∧ SqL X.K H l xs ∧ SqL X.K H m zs ∧ xs.length + zs.length ≤ sizeLine ∧ ∀ p, H p = none → Q (.ref p) (upd H p (.lst (xs ++ zs)))) := by
  intro pins s σ H x y v u Q I rx ry h
  obtain ⟨l, m, xs, zs, rfl, rfl, h1, h2, hz, q⟩ := h
  cases rx
  cases ry
  obtain ⟨its, r1, ⟨⟨c1, d1, t1, s1⟩, n1, o1, e1, _, f1⟩, _⟩ := I.list h1
  obtain ⟨jts, r2, ⟨⟨c2, d2, t2, s2⟩, n2, o2, e2, _, f2⟩, _⟩ := I.list h2
  simp only at e1 f1 e2 f2
  subst e1 f1 e2 f2
  have hl : its.length + jts.length ≤ sizeLine := by rw [← r1.length, ← r2.length]; exact hz
  refine concat_meets ⟨_, o1, rfl⟩ ⟨_, o2, rfl⟩ noFill_list_add seq_list_add PySem.F.slot_list_add PySem.F.entry_list_add (PySem.F.args_list_add_2 _ _) (list_addW l m its.toArray jts.toArray n1 n2 d1 d2 s1 s2 (by simpa using hl)) ⟨o1, o2, ?_⟩
  have ea : its.toArray ++ jts.toArray = (its ++ jts).toArray := by simp
  rw [ea]
  exact ⟨.ref _, _, I.lnew (t' := s.toks) (r1.append r2) (by rw [List.length_append]; omega), rfl, q _ I.fresh⟩
/-- a + b, lists -/
theorem eo_cat {ds es : List D} (ha : ED X ρ a (.lst ds)) (hb : ED X ρ b (.lst es)) (hl : ds.length + es.length ≤ sizeLine) : EO X ρ (.BinOp a .Add b pos) (.lst (ds ++ es)) := fun B0 B σ H0 H Q j k =>
  RE.of (pe_op op_catL pe_star pe_star) (ha B0 B σ H0 H _ j fun x G0 G g1 r1 => hb B0 B σ G0 G _ (j.grow g1) fun y L0 L g2 r2 => by
    obtain ⟨p, vs, rfl, h1, h2⟩ := DR.mono g2.s0 _ _ r1
    obtain ⟨q, ws, rfl, h3, h4⟩ := r2
    exact ⟨p, q, vs, ws, rfl, rfl, g2.sh.seq h1, g2.sh.seq h3, by rw [← DRs.length h2, ← DRs.length h4]; exact hl, fun z hz => k z _ L0 _ ((g1.trans g2).trans (JH.own g2.sh hz)) upd_same (g2.sh.free hz) ((g1.trans g2).sB.free hz) ⟨_, rfl, DRs.app h2 h4⟩⟩)
end
end DL
namespace DL
open PySem PySem.Spec PyProof.Rows L2
section
variable {X : Cx} {ρ : En} {pos : Pos} {a b e : Expr}
theorem op_notInSq (hu : X.A.units + 1 < cLine) : OpR X (compareOp .NotIn) (fun x y H Q => ∃ (a b : Addr) (kvs : List (List Key × V)) (k : List Key), x = .ref b ∧ y = .ref a ∧ Rd H a (.dT kvs) ∧ SqT X.K H b (k.map kV) ∧ Q (.bl (!(valV kvs k).isSome)) H) := by
  rintro pins s σ H x y v u Q I rx ry ⟨a, b, kvs, k, rfl, rfl, h1, h2, q⟩
  cases (show v = Value.ref b from rx); cases (show u = Value.ref a from ry)
  obtain ⟨z, hd, xs, rel, dd⟩ := dt_rd I.hok h1
  obtain ⟨its, r, ⟨o, e, c, n, dat⟩, _⟩ := I.tuple h2
  refine wpAny_notIn_heap (tupleKind_room_in1 hu) (k := k) ⟨o, its.toArray, n, e, c, dat, by simpa using items_are r⟩ hd dd ?_
  have qq := (rel.val k).isSome_eq
  rw [Option.isSome_map] at qq
  rw [← qq]
  exact ⟨.bl (!(valV kvs k).isSome), H, I.tok _, rfl, q⟩
theorem bx_inj {l m : List Bx} : l.map Bx.e = m.map Bx.e ↔ l = m := List.map_inj_right (f := Bx.e) (fun a b e => Bx.inj e)
theorem c2_eqBx {l m : List Bx} (hu : X.A.units + 64 < cLine) : C2 X .Eq (.tup (l.map Bx.e)) (.tup (m.map Bx.e)) (.bl (decide (l = m))) :=
  c2_eqC (n := 2) (m := 2) hu (.tup Bx.cms) (.tup Bx.cms) (by simp [bx_inj])
theorem c2_neBx {l m : List Bx} (hu : X.A.units + 64 < cLine) : C2 X .NotEq (.tup (l.map Bx.e)) (.tup (m.map Bx.e)) (.bl (!decide (l = m))) :=
  c2_neC (n := 2) (m := 2) hu (.tup Bx.cms) (.tup Bx.cms) (by simp [bx_inj])
end
end DL
namespace DL
open PySem PySem.Spec PyProof.Rows L2
/-- what the top says of a class: cn its name, fs its fields -/
structure Kl (K : PySem.W.Frag) (mg : Str → Option Value) (cn : Str) (fs : List Str) : Prop where
  ex : ∃ C, PySem.W.nsIn K mainGlobals cn = some (some (.ref C)) ∧ mg cn = some (.ref C) ∧ C8.InsC K C ∧ PySem.W.keepIn K (.ref C) = true ∧ ∀ f ∈ fs, NoAttr K C f
theorem kit_self {K : PySem.W.Frag} {C : Addr} : PySem.W.kitOne K (.ref C) (.ref C) = some true := by
  unfold PySem.W.kitOne
  exact if_pos (by first | rfl | simp | decide)
theorem zip_at {f : Str} : ∀ {ns : List Str} {vs : List V} {i : Nat} {v : V}, ns[i]? = some f → (ns.take i).contains f = false → vs[i]? = some v → (ns.zip vs).lookup f = some v
  | n :: ns, w :: vs, 0, v, h1, _, h3 => by
    simp only [List.getElem?_cons_zero, Option.some.injEq] at h1 h3
    subst h1; subst h3
    simp [List.lookup_cons]
  | n :: ns, w :: vs, i + 1, v, h1, h2, h3 => by
    simp only [List.getElem?_cons_succ] at h1 h3
    rw [List.take_succ_cons, List.contains_cons, Bool.or_eq_false_iff] at h2
    rw [List.zip_cons_cons, List.lookup_cons]
    rw [h2.1]
    exact zip_at h1 h2.2 h3
  | [], vs, i, v, h1, _, _ => by simp at h1
  | n :: ns, [], i, v, _, _, h3 => by simp at h3
theorem putF_new {f : Str} {y : V} : ∀ {ns : List Str} {vs : List V}, ns.contains f = false → ns.length = vs.length → putF f y (ns.zip vs) = (ns ++ [f]).zip (vs ++ [y])
  | [], [], _, _ => rfl
  | n :: ns, v :: vs, h, hl => by
    rw [List.contains_cons, Bool.or_eq_false_iff] at h
    have hne : ¬ (n = f) := fun e => by rw [e] at h; simp at h
    show (if n = f then _ else (n, v) :: putF f y (ns.zip vs)) = _
    rw [if_neg hne, putF_new h.2 (by simpa using hl)]
    rfl
  | [], v :: vs, _, hl => by simp at hl
  | n :: ns, [], _, hl => by simp at hl
section
variable {X : Cx} {ρ : En} {e : Expr} {pos : Pos} {cn f : Str} {ns fs : List Str} {ds : List D} {d : D}
/-- e.f, e an instance that is shared -/
theorem ed_fld (i : Nat) (kl : Kl X.K X.mg cn fs) (he : ED X ρ e (.obj cn ns ds)) (hn : ns[i]? = some f := by rfl) (hd : ds[i]? = some d := by rfl) (hu : (ns.take i).contains f = false := by decide +kernel) (hf : f ∈ fs := by decide +kernel)
    (hb : attributeBase e f X.env (eval e X.env) = eval e X.env := by rfl) : ED X ρ (.Attribute e f pos) d := fun B0 B σ H0 H Q j k => by
  refine RE.of (pe_fld pe_star hb) (he B0 B σ H0 H _ j fun v G0 G g r => ?_)
  obtain ⟨a, C, dx, vs, rfl, hC, ha, hlen, hvs⟩ := r
  obtain ⟨C', hC', hm, hc, hk, hna⟩ := kl.ex
  rw [hC] at hC'; cases hC'
  obtain ⟨v, hv, rv⟩ := DRs.get hvs hd
  exact ⟨a, C, dx, _, v, rfl, g.sh _ _ ha, hc.cl, hna f hf, zip_at hn hu hv, k v G0 G g rv⟩
/-- self.f = e, a new field -/
theorem ws_setF (s : Nat) {a : Addr} {x : Str} {p pos' : Pos} {value : Expr} {Φ : Out → Prop} (kl : Kl X.K X.mg cn fs) (hρ : ρ[s]? = some (.ox [(a, .ins cn ns ds)] (.ad a))) (hv : ED X ρ value d) (hΦ : Φ (.nx (ρ.set s (.ox [(a, .ins cn (ns ++ [f]) (ds ++ [d]))] (.ad a)))))
    (hnew : ns.contains f = false := by decide +kernel) (hf : f ∈ fs := by decide +kernel) (hlt : ns.length < 1000 := by decide)
    (hN : X.N[s]? = some x := by rfl) (hvis : Vis X.env.scope x := by first | exact Or.inl rfl | exact Or.inr (Or.inl rfl) | exact Or.inr (Or.inr rfl)) (hdb : (x == ("__debug__" : Str)) = false := by decide) (hcd : (x == ("__classdict__" : Str)) = false := by decide)
    (hs : swapsWith value (some (.Attribute (.Name x p) f pos')) pos.line X.env = pure false := by rfl) : WS X (.Assign [.Attribute (.Name x p) f pos'] value pos) ρ Φ := fun B0 B σ H0 H Dn j k => by
  refine ⟨_, ps_fld (pe_var hN hvis hdb hcd) pe_star hs, hv B0 B σ H0 H _ j fun v G0 G g r => ?_⟩
  have j1 := j.grow g
  obtain ⟨ov, e1, ⟨v1, rfl, rv⟩, hcs, _⟩ := j1.get hρ
  cases (show v1 = .ref a from rv)
  obtain ⟨o, h1, h2, h3, h4⟩ := (hcs _ (List.mem_singleton_self _)).ex
  obtain ⟨vs, C, dx, rfl, hC, hlen, hvs⟩ := h4
  obtain ⟨C', hC', hm, hc, hk, hna⟩ := kl.ex
  rw [hC] at hC'; cases hC'
  have hl : (ns.zip vs).length < 1000 := by rw [List.length_zip]; omega
  refine ⟨_, e1, a, C, dx, _, rfl, h1, hc.cl, hna f hf, hl, ?_⟩
  rw [putF_new hnew hlen]
  have j2 := j1.put (c' := .ins cn (ns ++ [f]) (ds ++ [d])) (o := .ins C dx ((ns ++ [f]).zip (vs ++ [v]))) hρ (List.mem_singleton_self _) ⟨vs ++ [v], C, dx, rfl, hC, by simp [hlen], DRs.app hvs (DRs.one r)⟩
  have e : putC [(a, OC.ins cn ns ds)] a (.ins cn (ns ++ [f]) (ds ++ [d])) = [(a, .ins cn (ns ++ [f]) (ds ++ [d]))] := by simp [putC]
  rw [e] at j2
  exact k _ hΦ _ _ _ j2
end
/-- a heap without a -/
def er (H : Hp) (a : Addr) : Hp := fun b => if b = a then none else H b
theorem er_same {H : Hp} {a : Addr} : er H a a = none := if_pos rfl
theorem er_ne {H : Hp} {a b : Addr} (h : b ≠ a) : er H a b = H b := if_neg h
theorem er_sub {H : Hp} {a : Addr} : Same (er H a) H := fun b u e => by
  by_cases h : b = a
  · subst h; rw [er_same] at e; cases e
  · rwa [er_ne h] at e
/-- __init__'s promise: R of the arguments, the fields' names, the fields -/
def spI (K : PySem.W.Frag) (cn : Str) (R : List D → List Str → List D → Prop) : Sp := fun vs H Q _ => ∃ H0 a C dx ds ns es ws, vs = .ref a :: ws ∧ PySem.W.nsIn K mainGlobals cn = some (some (.ref C)) ∧ Same H0 H ∧ H a = some (.ins C dx []) ∧ H0 a = none ∧ DRs K H0 ds ws ∧ R ds ns es ∧
  ∀ H0' H' o, JH H0 (er H a) H0' H' → H' a = some o → H0' a = none → OCR K H0' (.ins cn ns es) o → Q .non H'
def enI (N : List Str) (a : Addr) (cn : Str) (ds : List D) : En := .ox [(a, .ins cn [] [])] (.ad a) :: (ds.map Sl.sh ++ List.replicate (N.length - (ds.length + 1)) Sl.no)
section
variable {P : Program} {w : World} {K : PySem.W.Frag} {mg : Str → Option Value} {base : Heap}
theorem j_startI {N : List Str} {H0 H : Hp} {a C dx : Addr} {cn : Str} {ds : List D} {vs : List V} (s : Same H0 H) (hC : PySem.W.nsIn K mainGlobals cn = some (some (.ref C))) (ha : H a = some (.ins C dx [])) (h0 : H0 a = none) (r : DRs K H0 ds vs) (hl : ds.length + 1 ≤ N.length) : J K H0 (er H a) (L2.start N (.ref a :: vs)) H0 H (enI N a cn ds) := by
  have hlen := DRs.length r
  have kind : ∀ (i : Nat) s, (enI N a cn ds)[i]? = some s → i = 0 ∨ s = .no ∨ ∃ d, s = .sh d := fun i s h => by
    cases i with
    | zero => exact .inl rfl
    | succ i =>
      refine .inr ?_
      unfold enI at h
      rw [List.getElem?_cons_succ] at h
      by_cases hi : i < ds.length
      · rw [List.getElem?_append_left (by simpa using hi), List.getElem?_map, show ds[i]? = some ds[i] by simp [hi]] at h
        cases h; exact .inr ⟨_, rfl⟩
      · rw [List.getElem?_append_right (by simp; omega), List.getElem?_replicate] at h
        split at h
        · cases h; exact .inl rfl
        · cases h
  refine ⟨⟨Same.refl _, s, er_sub, fun b o e _ h => h⟩, by simp [L2.start, enI, hlen], fun i sl ov h1 h2 => ?_, fun i j s1 s2 o1 o2 b h1 h2 _ _ w1 w2 => ?_⟩
  · cases i with
    | zero =>
      unfold enI at h1
      unfold L2.start at h2
      simp only [List.getElem?_cons_zero, Option.some.injEq, List.map_cons, List.cons_append] at h1 h2
      subst h1; subst h2
      refine ⟨⟨_, rfl, rfl⟩, fun p hp => ?_, by simp⟩
      rw [List.mem_singleton] at hp; subst hp
      exact ⟨_, ha, h0, er_same, [], C, dx, rfl, hC, rfl, rfl⟩
    | succ i =>
      unfold enI at h1
      unfold L2.start at h2
      simp only [List.getElem?_cons_succ, List.map_cons, List.cons_append] at h1 h2
      by_cases hi : i < ds.length
      · rw [List.getElem?_append_left (by simpa using hi), List.getElem?_map] at h1
        rw [List.getElem?_append_left (by simp; omega), List.getElem?_map] at h2
        obtain ⟨v, e1, e2⟩ := DRs.get r (show ds[i]? = some ds[i] by simp [hi])
        rw [show ds[i]? = some ds[i] by simp [hi]] at h1
        rw [e1] at h2
        cases h1; cases h2
        exact ⟨v, rfl, e2⟩
      · rw [List.getElem?_append_right (by simp; omega), List.getElem?_replicate] at h1
        split at h1
        · cases h1; trivial
        · cases h1
  · rcases kind i s1 h1 with e1 | e1
    · rcases kind j s2 h2 with e2 | e2
      · rw [e1, e2]
      · exact absurd w2 (Owns.none e2 b)
    · exact absurd w1 (Owns.none e1 b)
theorem fn_okI {x qual : Str} {st : Stmt} {f : Addr} {fd : FuncData} {N ps : List Str} {k : Nat} {cn : Str} {R : List D → List Str → List D → Prop} (F : Fun K x qual st f fd) (S : FnScope N ps (defScope st)) (hR : ∀ ds ns es, R ds ns es → ds.length + 1 = ps.length)
    (h : ∀ a ds ns es, R ds ns es → ∀ (cdv : Value) (A : Around) (outer : List Env) (s : Shared) (H : Hp) (E : XK), Room k (A.deeper (envOfC qual (defScope st) s.heap.objs.size f cdv)) →
      WSs (bx P w K mg base N qual st f cdv A outer s H E) (defBody st) (enI N a cn ds) (fun o => ∃ ρ es', o = .nx ρ ∧ ρ[0]? = some (.ox [(a, .ins cn ns es')] (.ad a)) ∧ ∀ H vs, DRs K H es' vs → DRs K H es vs)) : FnOk P w K mg base CX0 (k + 1) f fd ps (spI K cn R) := by
  refine F.ok S (fun vs H Q E hs => ?_) fun cdv A outer s H vs Q E hr hs => ?_
  · obtain ⟨H0, a, C, dx, ds, ns, es, ws, rfl, hC, s0, ha, h0, r, q, _⟩ := hs
    rw [List.length_cons, ← DRs.length r]; exact hR ds ns es q
  · obtain ⟨H0, a, C, dx, ds, ns, es, ws, rfl, hC, s0, ha, h0, r, q, kk⟩ := hs
    have hN : ds.length + 1 ≤ N.length := by
      have h1 := hR ds ns es q
      have h2 := congrArg List.length S.pre
      rw [List.length_take] at h2
      omega
    obtain ⟨t, h1, h2⟩ := h a ds ns es q cdv A outer s H E hr H0 (er H a) (L2.start N (.ref a :: ws)) H0 H (j_startI s0 hC ha h0 r hN) (Dn := { nx := fun _ H' => Q .non H', rt := Q }) fun o ho => by
      obtain ⟨ρ, es', rfl, hρ, hw⟩ := ho
      intro σ G0 G j
      obtain ⟨ov, e1, ⟨v, rfl, rv⟩, hcs, _⟩ := j.get hρ
      obtain ⟨o, g1, g2, g3, g4⟩ := (hcs _ (List.mem_singleton_self _)).ex
      obtain ⟨vs, C', dx', e1, e2, e3, e4⟩ := g4
      exact kk G0 G o j.hp g1 g2 ⟨vs, C', dx', e1, e2, e3, hw _ _ e4⟩
    exact ⟨t, h1, h2⟩
/-- a class that is made by calling it -/
structure FnI (P : Program) (w : World) (K : PySem.W.Frag) (mg : Str → Option Value) (base : Heap) (cn : Str) (k : Nat) (R : List D → List Str → List D → Prop) : Prop where
  ex : ∃ C f fd ps, PySem.W.nsIn K mainGlobals cn = some (some (.ref C)) ∧ mg cn = some (.ref C) ∧ Mk K C f ∧ FnOk P w K mg base CX0 k f fd ps (spI K cn R) ∧ Binds K fd ps []
theorem eo_make {X : Cx} {ρ : En} {e : Expr} {pos : Pos} {cn : Str} {k : Nat} {R : List D → List Str → List D → Prop} {es : List Expr} {ds zs : List D} {ns : List Str} {p : Pos} (G : FnI X.prog X.w X.K X.mg X.base cn k R) (hr : Room (k + 1) X.A) (hg : Gl X cn) (ha : AD X ρ (e :: es) ds) (hR : R ds ns zs)
    (hdb : (cn == ("__debug__" : Str)) = false := by decide +kernel) (he : starEach (e :: es) X.env = (false, eval e X.env) :: starEach es X.env := by rfl) (hpl : (backTo pos (starEach es X.env)).any (·.1) = false := by rfl) :
    EO X ρ (.Call (.Name cn p) (e :: es) [] pos) (.ins cn ns zs) := fun B0 B σ H0 H Q j kk => by
  obtain ⟨C, f, fd, ps, hC, hm, M, F, hb⟩ := G.ex
  refine RE.of (pe_make (E := E0) M F hr hg hm hb .nil pass0 pa_star hdb he hpl) (ha B0 B σ H0 H _ j fun vs G0 G g r => ?_)
  intro x dx hx hdx hne
  rw [List.append_nil]
  have g0x : G0 x = none := g.sh.free hx
  have g0d : G0 dx = none := g.sh.free hdx
  have s1 : Same G0 (upd (upd G dx (.own x)) x (.ins C dx [])) := fun b u q => by
    rw [upd_ne (ne_of_none q g0x), upd_ne (ne_of_none q g0d)]
    exact g.sh b u q
  have sE : ∀ b u, G b = some u → er (upd (upd G dx (.own x)) x (.ins C dx [])) x b = some u := fun b u q => by
    have n1 := ne_of_none q hx
    rw [er_ne n1, upd_ne n1, upd_ne (ne_of_none q hdx)]
    exact q
  refine ⟨G0, x, C, dx, ds, ns, zs, vs, rfl, hC, s1, upd_same, g0x, r, hR, fun L0 L o gg e1 e2 e3 => ⟨rfl, ?_⟩⟩
  exact kk x o L0 L (g.trans ⟨gg.s0, gg.sh, fun b u q => gg.sB b u (sE b u q), fun b u q nt q' => gg.fr b u (sE b u q) nt q'⟩) e1 e2 (g.sB.free hx) e3
end
end DL
namespace DL
open PySem PySem.Spec PyProof.Rows L2
local instance (priority := 2000) keyBEq : BEq Key := instBEqOfDecidableEq
/-- the keys, each once -/
def stepK (σ : List Key) (v : Key) : List Key := if v ∈ σ then σ else σ ++ [v]
def ddK (ks : List Key) : List Key := ks.foldl stepK []
theorem ddK_snoc (ks : List Key) (v : Key) : ddK (ks ++ [v]) = stepK (ddK ks) v := by
  unfold ddK; rw [List.foldl_append]; rfl
theorem snoc_ind {α : Type} {P : List α → Prop} (h0 : P []) (hs : ∀ l x, P l → P (l ++ [x])) : ∀ l, P l := fun l => by
  have : ∀ n, ∀ l : List α, l.length = n → P l := fun n => by
    induction n with
    | zero => intro l hl; rw [List.length_eq_zero_iff.mp hl]; exact h0
    | succ n ih =>
      intro l hl
      have hne : l ≠ [] := fun e => by rw [e] at hl; cases hl
      rw [← List.dropLast_concat_getLast hne]
      exact hs _ _ (ih _ (by rw [List.length_dropLast, hl]; rfl))
  exact this _ l rfl
theorem mem_ddK (k : Key) : ∀ ks : List Key, k ∈ ddK ks ↔ k ∈ ks := by
  refine snoc_ind (by simp [ddK]) fun ks v ih => ?_
  rw [ddK_snoc, List.mem_append]
  unfold stepK
  split
  · rename_i h
    rw [ih]
    constructor
    · exact .inl
    · rintro (h1 | h1)
      · exact h1
      · rw [List.mem_singleton] at h1; subst h1; exact ih.mp h
  · rw [List.mem_append, ih]
theorem ddK_len : ∀ ks : List Key, (ddK ks).length ≤ ks.length := by
  refine snoc_ind (by simp [ddK]) fun ks v ih => ?_
  rw [ddK_snoc, List.length_append]
  unfold stepK
  split
  · omega
  · rw [List.length_append]; simp only [List.length_cons, List.length_nil]; omega
theorem ddK_nodup : ∀ ks : List Key, ks.Nodup → (ddK ks).length = ks.length := by
  refine snoc_ind (by simp [ddK]) fun ks v ih h => ?_
  rw [List.nodup_append] at h
  rw [ddK_snoc, List.length_append]
  unfold stepK
  rw [if_neg, List.length_append, ih h.1]
  intro hv
  exact h.2.2 v ((mem_ddK v ks).mp hv) v (by simp) rfl
theorem ddK_lt : ∀ ks : List Key, ¬ ks.Nodup → (ddK ks).length < ks.length := by
  refine snoc_ind (fun h => absurd List.nodup_nil h) fun ks v ih h => ?_
  rw [ddK_snoc, List.length_append]
  unfold stepK
  have hl := ddK_len ks
  split
  · simp only [List.length_cons, List.length_nil]; omega
  · rename_i hv
    rw [List.length_append]
    have hn : ¬ ks.Nodup := fun hn => h (List.nodup_append.mpr ⟨hn, by simp, fun a ha b hb e => by
      rw [List.mem_singleton] at hb
      subst hb; subst e
      exact hv ((mem_ddK _ _).mpr ha)⟩)
    have := ih hn
    simp only [List.length_cons, List.length_nil]; omega
section
variable {P : Program} {w : World} {A : Around} {E : Value → Shared → Prop} {s : Shared}
theorem set_update_keys {I : Addr} {fp wr : List Addr} {G : Array GenState → Array GenState → Prop} {n : Nat} {Pv : Nat → Value → Prop} {St : Nat → Shared → Prop} {R : Result → Shared → Prop}
    (W : WalksS P w A.in1 I fp wr G n Pv St) (S : Addr) (hSf : S ∉ fp) (ks : List Key) (hn : n = ks.length) (hb : ks.length + 1 < scanBound) (hval : ∀ i v, Pv i v → ∃ k, ks[i]? = some k ∧ (mixKind P w).is k v = true ∧ v.scannable = true) :
    ∀ (k i : Nat) (s : Shared), n - i = k → i ≤ n → St i s → s.heap.SetOf (mixKind P w) S (fun j => decide (j ∈ ks.take i)) (ddK (ks.take i)).length →
      (∀ s', Moved (S :: wr) G s s' → s'.heap.SetOf (mixKind P w) S (fun j => decide (j ∈ ks)) (ddK ks).length → R (.ok (.ret .none)) s') →
      codeAny (model P w) A (.builtin "set.update.loop" ⟨[.ref S, .ref I], []⟩) R s := by
  have hSw : S ∉ wr := fun h => hSf (W.sub _ h)
  have hsub : ∀ b ∈ wr, b ∈ S :: wr := fun b hb => List.mem_cons_of_mem _ hb
  intro k
  induction k with
  | zero =>
    intro i s hk' hi hst hS hR
    have hin : i = n := by omega
    subst hin
    refine codeAny_builtin F.entry_set_update_loop ?_
    rw [Around.under_plainId F.plain_set_update_loop _]
    show wpAny _ A.in1 (pyNext (.ref I) >>= _) _ _ s
    refine wpAny_bind (W.done s _ _ hst fun s' hm => ?_)
    show wpAny _ A.in1 (ret Value.none) _ _ s'
    have e : ks.take i = ks := List.take_of_length_le (by omega)
    rw [e] at hS
    exact wpAny_pure (hR s' (hm.mono hsub) (setOf_at hS fun o e => hm.heap S o hSw e))
  | succ k ih =>
    intro i s hk' hi hst hS hR
    have hlt : i < n := by omega
    refine codeAny_builtin F.entry_set_update_loop ?_
    rw [Around.under_plainId F.plain_set_update_loop _]
    show wpAny _ A.in1 (pyNext (.ref I) >>= _) _ _ s
    refine wpAny_bind (W.item i s _ _ hlt hst fun v s' hP hst' hm => ?_)
    obtain ⟨z, hz, hkey, hsc⟩ := hval i v hP
    have hS' : s'.heap.SetOf (mixKind P w) S (fun j => decide (j ∈ ks.take i)) (ddK (ks.take i)).length := setOf_at hS fun o e => hm.heap S o hSw e
    show wpAny _ A.in1 (holding [v] (setAdd S v) >>= _) _ _ s'
    refine wpAny_bind (wpAny_holding ?_)
    unfold setAdd
    refine wpAny_holding ?_
    refine wpAny_bind ((mixKind P w).pyHash (k := z) hkey ?_)
    have hroom : (ddK (ks.take i)).length + 1 < scanBound := by
      have h1 := ddK_len (ks.take i)
      rw [List.length_take] at h1
      omega
    refine wpAny_setAddHashed_of (s := { s' with toks := s'.toks + 1 }) hkey hsc hS' hroom fun h' hsb hS2 => ?_
    have et : ks.take (i + 1) = ks.take i ++ [z] := by rw [List.take_add_one, hz]; rfl
    have hS3 : h'.SetOf (mixKind P w) S (fun j => decide (j ∈ ks.take (i + 1))) (ddK (ks.take (i + 1))).length := by
      refine SetOf_congr hS2 (fun j => ?_) ?_
      · rw [et]
        simp [List.mem_append]
      · rw [et, ddK_snoc]
        unfold stepK
        by_cases hm : z ∈ ks.take i
        · rw [if_pos (decide_eq_true hm), if_pos ((mem_ddK _ _).mpr hm)]
        · rw [if_neg (by simpa using hm), if_neg (fun q => hm ((mem_ddK _ _).mp q)), List.length_append]; rfl
    refine wpAny_pure ⟨plainId_quiet F.plain_set_update_loop _, ih (i + 1) _ (by omega) hlt (W.frame _ s' _ _ hst' (Nat.le_succ _) fun b hb o e => ?_) hS3 fun s'' hm'' hS'' => ?_⟩
    · rw [hsb.2 b (fun h : b = S => hSf (by rw [← h]; exact hb))]; exact e
    · refine hR s'' (Moved.trans W.gtrans ((hm.mono hsub).then_heap (Nat.le_succ _) fun b o hb e => ?_) hm'') hS''
      rw [hsb.2 b (fun h : b = S => hb (by rw [h]; exact List.mem_cons_self))]; exact e
/-- the values are the keys -/
def KeysAre (P : Program) (w : World) (us : List Value) (ks : List Key) : Prop := us.length = ks.length ∧ ∀ (i : Nat) u, us[i]? = some u → ∃ k, ks[i]? = some k ∧ (mixKind P w).is k u = true ∧ u.scannable = true
end
theorem keys_are {P : Program} {w : World} : ∀ {ks : List Key} {us : List Value}, Vals (ks.map kV) us → KeysAre P w us ks
  | [], us, r => by cases r; exact ⟨rfl, fun i u h => by simp at h⟩
  | k :: ks, us, r => by
    cases r with
    | cons r1 r2 =>
      have ih := keys_are (P := P) (w := w) r2
      refine ⟨by simp [ih.1], fun i u h => ?_⟩
      cases i with
      | zero =>
        simp only [List.getElem?_cons_zero, Option.some.injEq] at h ⊢
        subst h
        exact ⟨k, rfl, kV_is r1, key_scan r1⟩
      | succ i =>
        simp only [List.getElem?_cons_succ] at h ⊢
        exact ih.2 i u h
/-- an int, a text as a key -/
def kD : Key → D
  | .inl i => .int i
  | .inr x => .str x
theorem kD_val {K : PySem.W.Frag} {H : Hp} {k : Key} {v : V} (h : DR K H (kD k) v) : v = kV k := by
  cases k with
  | inl i => exact h
  | inr x => exact h
theorem kDs_val {K : PySem.W.Frag} {H : Hp} : ∀ {ks : List Key} {vs : List V}, DRs K H (ks.map kD) vs → vs = ks.map kV
  | [], vs, h => h
  | k :: ks, vs, h => by
    obtain ⟨v, r, rfl, h2, h3⟩ := h
    rw [kD_val h2, kDs_val h3]; rfl
section
variable {X : Cx} {ρ : En} {pos : Pos}
theorem call_lenK : CallR X (.builtin "len") (fun vs H Q => ∃ (a : Addr) (S : Key → Bool) (n : Nat), vs = [.ref a] ∧ H a = some (SetK X.prog X.w a S n) ∧ Q (.int (n : Nat)) H) := by
  intro pins s σ H vs us Q I r h
  obtain ⟨a, S, n, rfl, ha, q⟩ := h
  rw [Vals.ref1 r]
  obtain ⟨o, es, ep, t, ho, hex, hd, _, _, hb, hf, hn⟩ := setK_get I ha
  refine call_len_set ho hex hd hf (by unfold scanBound at hb; omega) ⟨.int (n : Nat), H, I.tok _, ⟨_, by rw [hn]⟩, q⟩
end
end DL
namespace DL
open PySem PySem.Spec PyProof.Rows L2
open PySem.W (EachIs AllAlike Sortable KeepsBut SortsAt KeyedOut dataLe dataKind alike sortingHeap sortingHeap_old)
section
variable {X : Cx} {ρ : En} {pos : Pos} {β : Type} {bs : List β} {enc : β → D}
theorem c2_leS {i j : Str} : C2 X .LtE (.str i) (.str j) (.bl (!decide (j.cps.toList < i.cps.toList))) := ⟨_, op_le_str, fun H0 H x y Q s r1 r2 k => by
  cases (show x = .str i from r1); cases (show y = .str j from r2)
  exact ⟨i, j, rfl, rfl, k _ H0 H (JH.refl s) rfl⟩⟩
theorem bc_strI {i : Int} (h : i.natAbs.log2 < 1920) : BC X (.type "str") [.int i] (.str (toString i)) := bc_keep call_str_int _ (fun _ => rfl) fun _ _ vs _ _ r q => by
  obtain ⟨x, rfl, h1⟩ := r.one'
  cases (show x = .int i from h1)
  exact ⟨i, rfl, h, q⟩
/-- the signs of a text, each a text -/
def sgn (c : Nat) : Str := ⟨#[c]⟩
theorem id_str {tg e : Expr} {z : Str} (h : ED X ρ e (.str z)) : ID X ρ tg e (z.cps.toList.map fun c => .str (sgn c)) := fun B0 B σ H0 H R j k =>
  ⟨_, pi_str pe_star, h B0 B σ H0 H _ j fun v G0 G g r => ⟨z, r, k _ G0 G g ⟨_, _, (by rw [List.length_map, Array.length_toList]; exact walk_str (z := z)), fun _ _ _ _ => trivial, fun i H1 H x H' d hd s1 s2 y => by
    obtain ⟨rfl, c, hc, rfl⟩ := y
    rw [List.getElem?_map, Array.getElem?_toList, hc] at hd
    cases hd
    exact ⟨H1, JH.refl s2, rfl⟩⟩⟩⟩
theorem c2_inStr {x : Str} {ys : List Str} {d : D} (hd : SeqD d (ys.map D.str)) : C2 X .In (.str x) d (.bl (decide (x ∈ ys))) := ⟨_, op_in_seq, fun H0 H u v Q s r1 r2 k => by
  cases (show u = .str x from r1)
  have hf : (ys.map V.str).all flatV = true := by simp [flatV]
  have hi : inV (.str x) (ys.map V.str) = decide (x ∈ ys) := by
    unfold inV
    rw [Bool.eq_iff_iff]
    simp only [List.any_eq_true, List.mem_map, decide_eq_true_eq]
    constructor
    · rintro ⟨v, ⟨y, hy, rfl⟩, h⟩
      have : y = x := by simpa [eqV] using h
      exact this ▸ hy
    · intro h
      exact ⟨.str x, ⟨x, h, rfl⟩, by simp [eqV]⟩
  have fin : Q (.bl (if false = true then !inV (.str x) (ys.map V.str) else inV (.str x) (ys.map V.str))) H := by
    rw [hi]; exact k _ H0 H (JH.refl s) rfl
  cases hd with
  | lst =>
    obtain ⟨a, vs, rfl, h1, h2⟩ := r2
    rw [DRs.strs h2] at h1
    exact ⟨a, _, rfl, .inl (s.seq h1), rfl, hf, fin⟩
  | tup =>
    obtain ⟨a, vs, rfl, h1, h2⟩ := r2
    rw [DRs.strs h2] at h1
    exact ⟨a, _, rfl, .inr (Same.seqT s h1), rfl, hf, fin⟩⟩
end
end DL
namespace DL
open PySem PySem.Spec PyProof.Rows L2
theorem Paired.mono {α β : Type} {R R' : α → β → Prop} (m : ∀ a b, R a b → R' a b) : ∀ {as : List α} {bs : List β}, Paired R as bs → Paired R' as bs
  | _, _, .nil => .nil
  | _, _, .cons h t => .cons (m _ _ h) (Paired.mono m t)
section
variable {X : Cx} {ρ : En} {pos : Pos}
/-- z[lo:hi], z a text -/
theorem ed_sliceS {e : Expr} {lo hi : Option Expr} {p q : Option Int} {z : Str} {p2 : Pos} (he : ED X ρ e (.str z)) (hz : z.length ≤ sizeLine) (hl : Part X ρ lo p) (hh : Part X ρ hi q) : ED X ρ (.Subscript e (.Slice lo hi none p2) pos) (.str (cutS z p q)) := fun B0 B σ H0 H Q j k =>
  RE.of (pe_slice sl_str pe_star po_star po_star) (he B0 B σ H0 H _ j fun v G0 G g1 r => hl.run (j.grow g1) fun L0 L g2 => hh.run ((j.grow g1).grow g2) fun M0 M g3 =>
    ⟨z, r, hz, k _ M0 M ((g1.trans g2).trans g3) rfl⟩)
/-- t[lo:hi], t a tuple -/
theorem ed_sliceT {e : Expr} {lo hi : Option Expr} {p q : Option Int} {ds : List D} {p2 : Pos} (he : ED X ρ e (.tup ds)) (hl : Part X ρ lo p) (hh : Part X ρ hi q) : ED X ρ (.Subscript e (.Slice lo hi none p2) pos) (.tup (cutD ds p q)) := fun B0 B σ H0 H Q j k =>
  RE.of (pe_slice sl_tupA pe_star po_star po_star) (he B0 B σ H0 H _ j fun v G0 G g1 r => hl.run (j.grow g1) fun L0 L g2 => hh.run ((j.grow g1).grow g2) fun M0 M g3 => by
    obtain ⟨a, vs, rfl, h1, h2⟩ := r
    have g := g2.trans g3
    have h2' := DRs.mono g.s0 _ _ h2
    have h1' := Same.seqT (g.sh) (Same.seqT g.s0 h1)
    refine ⟨a, vs, rfl, h1', fun hw => k _ M0 M (g1.trans g) ⟨a, _, rfl, Same.seqT g.s0 h1, by
      have e : cutD ds p q = ds := by
        unfold cutD
        rw [DRs.length h2', hw.1, hw.2, List.drop_zero, Nat.sub_zero, ← DRs.length h2', List.take_length]
      rw [e]; exact h2'⟩, fun hw pp hp => ?_⟩
    have g4 : JH M0 M (upd M0 pp (.tup (cutV vs p q))) (upd M pp (.tup (cutV vs p q))) := JH.new g.sh hp
    exact k _ _ _ ((g1.trans g).trans g4) ⟨pp, _, rfl, SqT.of upd_same, DRs.mono g4.s0 _ _ (DRs.cut h2' _ _)⟩)
end
end DL
namespace DL
open PySem PySem.Spec PyProof.Rows L2
theorem one_lt (a b : Nat) : (([a] : List Nat) < [b]) ↔ a < b := by
  constructor
  · intro h
    cases h with
    | rel h => exact h
    | cons h => cases h
  · exact fun h => List.Lex.rel h
theorem chX {x y : Str} {lo hi : Nat} (e1 : x.cps.toList = [lo]) (e2 : y.cps.toList = [hi]) (c : Nat) : ((!decide ((⟨#[c]⟩ : Str).cps.toList < x.cps.toList)) && (!decide (y.cps.toList < (⟨#[c]⟩ : Str).cps.toList))) = (decide (lo ≤ c) && decide (c ≤ hi)) := by
  rw [Bool.eq_iff_iff]
  simp only [Bool.and_eq_true, Bool.not_eq_true', decide_eq_false_iff_not, decide_eq_true_eq]
  rw [e1, e2]
  show ¬ (([c] : List Nat) < [lo]) ∧ ¬ (([hi] : List Nat) < [c]) ↔ _
  rw [one_lt, one_lt]
  omega
theorem chA (c : Nat) : ((!decide ((⟨#[c]⟩ : Str).cps.toList < (PySem.Str.ofString "a").cps.toList)) && (!decide ((PySem.Str.ofString "z").cps.toList < (⟨#[c]⟩ : Str).cps.toList))) = (decide (97 ≤ c) && decide (c ≤ 122)) :=
  chX (by decide +kernel) (by decide +kernel) c
theorem ch0 (c : Nat) : ((!decide ((⟨#[c]⟩ : Str).cps.toList < (PySem.Str.ofString "0").cps.toList)) && (!decide ((PySem.Str.ofString "9").cps.toList < (⟨#[c]⟩ : Str).cps.toList))) = (decide (48 ≤ c) && decide (c ≤ 57)) :=
  chX (by decide +kernel) (by decide +kernel) c
end DL
namespace DL
open PySem PySem.Spec PyProof.Rows L2
section
variable {X : Cx} {ρ : En} {pos : Pos}
theorem c2_inInts {i : Int} {ns : List Int} : C2 X .In (.int i) (.lst (ns.map .int)) (.bl (decide (i ∈ ns))) := ⟨_, op_in_seq, fun H0 H u v Q s r1 r2 k => by
  cases (show u = .int i from r1)
  obtain ⟨a, vs, rfl, h1, h2⟩ := r2
  rw [DRs.ints h2] at h1
  have hi : inV (.int i) (ns.map V.int) = decide (i ∈ ns) := by
    unfold inV
    rw [Bool.eq_iff_iff]
    simp only [List.any_eq_true, List.mem_map, decide_eq_true_eq]
    constructor
    · rintro ⟨v, ⟨y, hy, rfl⟩, h⟩
      have : y = i := by simpa [eqV] using h
      exact this ▸ hy
    · intro h
      exact ⟨.int i, ⟨i, h, rfl⟩, by simp [eqV]⟩
  refine ⟨a, _, rfl, .inl (s.seq h1), rfl, by simp [flatV], ?_⟩
  rw [hi]
  exact k _ H0 H (JH.refl s) rfl⟩
end
end DL
namespace DL
open PySem PySem.Spec PyProof.Rows L2
local instance (priority := 2000) keyBEq25 : BEq Key := instBEqOfDecidableEq
section
variable {P : Program} {w : World} {A : Around} {E : Value → Shared → Prop} {s : Shared}
theorem set_of_keysT {p : Addr} {its : Array Value} (ks : List Key) {Q : Value → Shared → Prop} (quiet : A.handled = none) (isl : s.heap.IsTuple p its) (hks : KeysAre P w its.toList ks) (few : ks.length + 1 < scanBound)
    (fin : ∀ (g : Heap) (tk : Nat), g.SetOf (mixKind P w) s.heap.objs.size (fun j => decide (j ∈ ks)) (ddK ks).length → (∀ b o, s.heap.get? b = some o → g.get? b = some o) → Q (.ref s.heap.objs.size) { s with heap := g, toks := tk }) : wpAny (model P w) A (call (.type "set") [.ref p]) Q E s := by
  have size : its.size = ks.length := by rw [← hks.1, Array.length_toList]
  have f1 := F.called_set.made
  have f2 := F.called_set.sub
  have f3 := F.called_set.notType
  have f4 := F.called_set.canCreate
  have f5 := F.typeCall_set_1 (.ref p)
  obtain ⟨_, _, f6⟩ := F.called_set.mro
  refine wpAny_call (codeAny_of_tree (?_ : wpAny _ _ (callAny (.type "set") _) _ _ _))
  refine wpAny_pure ⟨Code.quiet_builtin _ (by decide +kernel), codeAny_builtin F.entry_type_call ?_⟩
  rw [Around.under_plain (weight_type_call_type "set" [.ref p] []) rfl]
  repeat (any_goals (first | assumption | wp_step))
  refine codeAny_mono (code_set_led1 (.ref p) (E := E) (Q₁ := fun v t => v = .ref s.heap.objs.size ∧ t = { s with heap := s.heap.push (nSet w) }) ⟨rfl, rfl⟩) fun r1 t1 e1 => ?_
  rcases r1 with r1 | r1
  · exact e1
  cases r1 with
  | ret v =>
    obtain ⟨rfl, rfl⟩ := e1
    have at0 : (s.heap.push (nSet w)).get? s.heap.objs.size = some (nSet w) := Heap.get?_push_size _ rfl
    have ty : Shared.TypeIs { s with heap := s.heap.push (nSet w) } (.ref s.heap.objs.size) "set" := ⟨_, at0, rfl⟩
    have f7 := F.called_set.init.lookup
    have f8 := F.called_set.init.bind (.ref s.heap.objs.size)
    repeat (any_goals (first | assumption | wp_step))
    refine codeAny_mono (codeAny_call_builtin (R := wants (fun v t => v = .none ∧ ∃ g tk, t = { s with heap := g, toks := tk } ∧ g.SetOf (mixKind P w) s.heap.objs.size (fun j => decide (j ∈ ks)) (ddK ks).length ∧ ∀ b o, s.heap.get? b = some o → g.get? b = some o) E) F.called_set.init.plain F.entry_set_init (check_set_init_1 ty ?_)) fun r2 t2 e2 => ?_
    · obtain ⟨⟨c0, d0, dat, sl⟩, ho, hc, n0, hd⟩ := isl
      simp only at hc hd
      subst hc hd
      have there : (s.heap.push (nSet w)).get? p = some { cls := .type "tuple", dict := d0, data := .seq its n0, slots := sl } := Heap.get?_push_of_some _ ho
      have g1 := F.sub_tuple_set
      have g2 := F.sub_tuple_frozenset
      have g3 : (Value.type "tuple" == Value.type "dict") = false := by decide
      have isl2 : (s.heap.push (nSet w)).IsTuple p its := ⟨_, there, rfl, n0, rfl⟩
      unfold Builtin.«set.__init__» noKeywords Builtin.Frozenset.updateFrom
      generalize hI : pyIter = IT
      wp_walk
      subst hI
      refine wpAny_pyIter_tuple isl2 (wpAny_bind (wpAny_runValue ?_))
      have old : p < s.heap.objs.size := Heap.lt_size ho
      have it0 : (s.heap.push (nSet w)).objs.size = s.heap.objs.size + 1 := Heap.size_push ..
      have quiet3 : A.in1.in1.in1.handled = none := by simp [quiet]
      have apart : p ≠ (s.heap.push (nSet w)).objs.size := fun e => Nat.ne_of_lt (Nat.lt_succ_of_lt old) (e.trans it0)
      have outside : s.heap.objs.size ∉ [(s.heap.push (nSet w)).objs.size, p] := by
        intro z
        simp only [List.mem_cons, List.not_mem_nil, or_false] at z
        rcases z with z | z
        · exact Nat.ne_of_lt (Nat.lt_succ_self _) (z.trans it0)
        · exact Nat.ne_of_gt old z
      have new : ((s.heap.push (nSet w)).push { cls := .type "tuple_iterator", data := .fields #[.ref p, .int 0 0] }).SetOf (mixKind P w) s.heap.objs.size (fun j => decide (j ∈ ks.take 0)) (ddK (ks.take 0)).length :=
        ⟨_, #[], 0, _, Heap.get?_push_of_some _ at0, ⟨rfl, rfl, rfl⟩, rfl, (fun e he => by simp at he), (fun k => by simp), (by decide), (by rfl), rfl⟩
      refine set_update_keys ((Walks.tuple quiet3 _ p apart its).toS) s.heap.objs.size outside ks size few (fun i v hv => ?_) (its.size - 0) 0 _ (by omega) (Nat.zero_le _) ⟨⟨_, Heap.get?_push_size _ rfl, rfl, rfl⟩, isl2.push _⟩ new fun t3 mv fin3 => ?_
      · exact hks.2 i v (by rw [Array.getElem?_toList]; exact hv)
      · obtain ⟨g, gs, dr, tk, os⟩ := t3
        obtain rfl : gs = s.gens := mv.gens
        obtain rfl : dr = s.drawn := mv.drawn
        obtain rfl : os = s.os := mv.os
        show wpAny _ _ _ _ _ _
        refine wpAny_pure (?_ : wpAny _ _ (ret Value.none) _ _ _)
        refine wpAny_pure ⟨rfl, g, tk, rfl, fin3, fun b o e => mv.heap b o (fun z => ?_) (Heap.get?_push_of_some _ (Heap.get?_push_of_some _ e))⟩
        have hb := Heap.lt_size e
        simp only [List.mem_cons, List.not_mem_nil, or_false] at z
        rcases z with z | z
        · exact Nat.ne_of_lt hb z
        · exact Nat.ne_of_lt (Nat.lt_succ_of_lt hb) (z.trans it0)
    · rcases r2 with r2 | r2
      · exact e2
      cases r2 with
      | ret v =>
        obtain ⟨rfl, g, tk, rfl, h1, h3⟩ := e2
        repeat (any_goals (first | assumption | wp_step))
        exact fin _ _ h1 h3
      | _ => exact e2.elim
  | _ => exact e1.elim
end
section
variable {X : Cx} {ρ : En} {pos : Pos}
theorem call_setKT (hc : X.calm = true) : CallR X (.type "set") (fun vs H Q => ∃ (l : Addr) (ks : List Key), vs = [.ref l] ∧ SqT X.K H l (ks.map kV) ∧ ks.length + 1 < scanBound ∧ ∀ p, H p = none → Q (.ref p) (upd H p (SetK X.prog X.w p (fun j => decide (j ∈ ks)) (ddK ks).length))) := by
  intro pins s σ H vs us Q I r h
  obtain ⟨l, ks, rfl, hs, few, q⟩ := h
  rw [Vals.ref1 r]
  obtain ⟨its, rv, pl, hz⟩ := I.tuple hs
  refine set_of_keysT ks (I.ok.hd hc) pl (by simpa using keys_are rv) few fun g tk hS hk => ?_
  exact ⟨.ref _, _, I.laid (t' := tk) hk (Nat.le_refl _) (setK_new hS), rfl, q _ (I.hok.fresh (Nat.le_refl _))⟩
/-- len(set(e)) -/
theorem ed_lenSetKT {e : Expr} {ks : List Key} {p1 p2 q : Pos} (hc : X.calm = true) (hs : Gl X "len") (hms : X.mg "len" = none) (ht : Gl X "set") (hmt : X.mg "set" = none) (he : ED X ρ e (.tup (ks.map kD))) (few : ks.length + 1 < 4096)
    (h1 : starEach [e] X.env = (false, eval e X.env) :: starEach [] X.env := by rfl) (h2 : (backTo q (starEach [] X.env)).any (·.1) = false := by rfl)
    (h3 : starEach [.Call (.Name "set" p2) [e] [] q] X.env = (false, eval (.Call (.Name "set" p2) [e] [] q) X.env) :: starEach [] X.env := by rfl) (h4 : (backTo pos (starEach [] X.env)).any (·.1) = false := by rfl) :
    ED X ρ (.Call (.Name "len" p1) [.Call (.Name "set" p2) [e] [] q] [] pos) (.int ((ddK ks).length : Nat)) := fun B0 B σ H0 H Q j k => by
  refine RE.of (pe_callB call_lenK hs hms bb_len (pa_cons (pe_callTy (call_setKT hc) ht hmt bb_set (pa_cons pe_star pa_nil h1) (by decide) (by decide) h1 h2) pa_nil h3) (by decide) (by decide) h3 h4) ?_
  refine he B0 B σ H0 H _ j fun v G0 G g r => ?_
  obtain ⟨l, vs, rfl, hS, rr⟩ := r
  rw [kDs_val rr] at hS
  refine ⟨l, ks, rfl, Same.seqT g.sh hS, few, fun p hp => ?_⟩
  exact ⟨p, _, _, rfl, upd_same, k _ G0 _ (g.trans (JH.own g.sh hp)) rfl⟩
/-- a dict of the module, its keys texts: what stands at one of them -/
structure KdL (K : PySem.W.Frag) (w : World) (mg : Str → Option Value) (x z : Str) (d : D) : Prop where
  ex : ∃ p v, mg x = some (.ref p) ∧ KDct K w p z v ∧ ∀ H, DR K H d v
structure KdT (K : PySem.W.Frag) (w : World) (mg : Str → Option Value) (x : Str) (kds : List (Str × D)) : Prop where
  get : ∀ q ∈ kds, KdL K w mg x q.1 q.2
theorem kdl_mk {K : PySem.W.Frag} {w : World} {mg : Str → Option Value} {x z : Str} {d : D} {p : Addr} {es : Array DictEntry} {n : Nat} {u : Value} (h : mg x = some (.ref p)) (l : K.lookup p = some ⟨.type "dict", none, .dict es n, #[]⟩) (q : PySem.W.KeysLit w.params es.toList) (v : PySem.W.nsIn K p z = some (some u)) (kd : KD K d u) : KdL K w mg x z d := by
  obtain ⟨y, r, hy⟩ := kd
  exact ⟨p, y, h, ⟨es, n, u, l, q, v, r⟩, hy⟩
theorem ed_kdict {x z : Str} {d : D} {e : Expr} {p2 : Pos} (h : KdL X.K X.w X.mg x z d) (hg : Gl X x) (he : ED X ρ e (.str z)) (hs : PlainIx e := by exact fun _ _ => rfl) (hd : (x == ("__debug__" : Str)) = false := by decide) : ED X ρ (.Subscript (.Name x p2) e pos) d := fun B0 B σ H0 H Q j k => by
  obtain ⟨p, v, h1, h2, h3⟩ := h.ex
  refine RE.of (pe_ix ix_kdict (pe_glob (v := .ref p) hg h1 rfl hd) pe_star hs) ?_
  refine he B0 B σ H0 H _ j fun u G0 G g r => ?_
  exact ⟨p, z, v, rfl, r, h2, k v G0 G g (h3 G0)⟩
theorem ed_call0 {x : Str} {k : Nat} {R : List D → D → Prop} {d : D} {p : Pos} (G : Fn X.prog X.w X.K X.mg X.base x k R) (hr : Room k X.A) (hg : Gl X x) (hR : R [] d) (hdb : (x == ("__debug__" : Str)) = false := by decide) :
    ED X ρ (.Call (.Name x p) [] [] pos) d := fun B0 B σ H0 H Q j kk => by
  obtain ⟨f, fd, ps, F, hm, hk, hb⟩ := G.ex
  refine RE.of (pe_call0 (E := E0) F hr hg hm hk hb .nil pass0 hdb) ?_
  exact ⟨H0, [], d, j.same, rfl, hR, fun v L0 L g2 r2 => kk v L0 L g2 r2⟩
end
end DL
namespace DL
open PySem PySem.Spec PyProof.Rows L2
local instance (priority := 2000) keyBEqR : BEq Key := instBEqOfDecidableEq
def lays : List Str := ["well", "active", "poly", "contact", "metal", "via", "top"]
inductive Form : Str → Nat → Nat → Prop
  | width : Form "width" 1 1 | space : Form "space" 1 1 | area : Form "area" 1 1
  | apart : Form "apart" 2 1 | cover : Form "cover" 2 1 | size : Form "size" 1 2 | never : Form "never" 2 0
def lcT : List (Str × D) := [("width", .int 1), ("space", .int 1), ("apart", .int 2), ("cover", .int 2), ("area", .int 1), ("size", .int 1), ("never", .int 2)]
theorem lc_mem {k : Str} {a b : Nat} (h : Form k a b) : (k, D.int (a : Int)) ∈ lcT := by
  cases h
  · exact List.mem_cons_self
  · exact List.mem_cons_of_mem _ List.mem_cons_self
  · exact List.mem_cons_of_mem _ (List.mem_cons_of_mem _ (List.mem_cons_of_mem _ (List.mem_cons_of_mem _ List.mem_cons_self)))
  · exact List.mem_cons_of_mem _ (List.mem_cons_of_mem _ List.mem_cons_self)
  · exact List.mem_cons_of_mem _ (List.mem_cons_of_mem _ (List.mem_cons_of_mem _ List.mem_cons_self))
  · exact List.mem_cons_of_mem _ (List.mem_cons_of_mem _ (List.mem_cons_of_mem _ (List.mem_cons_of_mem _ (List.mem_cons_of_mem _ List.mem_cons_self))))
  · exact List.mem_cons_of_mem _ (List.mem_cons_of_mem _ (List.mem_cons_of_mem _ (List.mem_cons_of_mem _ (List.mem_cons_of_mem _ (List.mem_cons_of_mem _ List.mem_cons_self)))))
abbrev rDs (k : Str) (ls : List Str) (ns : List Int) : List D := .str k :: (ls.map D.str ++ ns.map D.int)
theorem form_len {k : Str} {a b : Nat} (h : Form k a b) : (a = 1 ∨ a = 2) ∧ b ≤ 2 := by cases h <;> decide
theorem sIx_in {n i d : Nat} (h : i ≤ n) : HT.sIx n d (some (i : Int)) = i := by
  unfold HT.sIx
  simp only [Option.map_some, Option.getD_some]
  split <;> omega
theorem rDs_len (k : Str) (ls : List Str) (ns : List Int) : (rDs k ls ns).length = 1 + ls.length + ns.length := by
  simp [rDs]; omega
theorem cut_ls (k : Str) (ls : List Str) (ns : List Int) : cutD (rDs k ls ns) (some 1) (some (1 + (ls.length : Int))) = ls.map D.str := by
  unfold cutD
  have h := rDs_len k ls ns
  rw [show (1 + (ls.length : Int)) = ((1 + ls.length : Nat) : Int) by omega, show (1 : Int) = ((1 : Nat) : Int) from rfl, sIx_in (by omega), sIx_in (by omega), Nat.add_sub_cancel_left]
  show (List.drop 1 (D.str k :: (ls.map D.str ++ ns.map D.int))).take ls.length = _
  rw [List.drop_succ_cons, List.drop_zero, ← List.length_map (f := D.str), List.take_left]
theorem cut_ns (k : Str) (ls : List Str) (ns : List Int) : cutD (rDs k ls ns) (some (1 + (ls.length : Int))) none = ns.map D.int := by
  unfold cutD
  have h := rDs_len k ls ns
  rw [show (1 + (ls.length : Int)) = ((1 + ls.length : Nat) : Int) by omega, sIx_in (by omega)]
  show (List.drop (1 + ls.length) (D.str k :: (ls.map D.str ++ ns.map D.int))).take ((rDs k ls ns).length - (1 + ls.length)) = _
  rw [h, Nat.add_comm 1 ls.length, List.drop_succ_cons, ← List.length_map (f := D.str), List.drop_left, List.length_map, show ls.length + 1 + ns.length - (ls.length + 1) = ns.length by omega, ← List.length_map (f := D.int) (as := ns), List.take_length]
def least (k : Str) : Int := if decide (k ∈ (["apart", "cover"] : List Str)) = true then 0 else 1
theorem nd_one {l : Str} : (decide (((ddK ([l].map (fun l => (Sum.inr l : Key)))).length : Int) = (([l] : List Str).length : Int))) = true := by
  rw [ddK_nodup _ (by simp)]; simp
theorem nd_two {a b : Str} : (decide (((ddK ([a, b].map (fun l => (Sum.inr l : Key)))).length : Int) = (([a, b] : List Str).length : Int))) = !decide (a = b) := by
  by_cases e : a = b
  · subst e
    have h : ¬ ([a, a].map (fun l => (Sum.inr l : Key))).Nodup := by simp
    have h2 := ddK_lt _ h
    rw [decide_eq_false (by simp only [List.length_map] at h2 ⊢; omega), decide_eq_true rfl]; rfl
  · rw [ddK_nodup _ (by simpa using e), decide_eq_false e]; simp
end DL
namespace DL
open PySem L2
def ltr : Str := "abcdefghijklmnopqrstuvwxyz"
def tls : List Str := ["", "1", "n2", "ab", "z9", "q0q"]
theorem ltr_len : ltr.cps.toList.length = 26 := by decide +kernel
theorem at_ltr {i : Int} (h0 : 0 ≤ i) (h1 : i < 26) : atI ltr.cps.toList i = some (ltr.cps.toList.getD i.toNat 0) := by
  refine atI_nn h0 ?_
  have : i.toNat < ltr.cps.toList.length := by rw [ltr_len]; omega
  rw [List.getD_eq_getElem?_getD, List.getElem?_eq_getElem this]; rfl
theorem at_tls {i : Int} (h0 : 0 ≤ i) (h1 : i < 6) : atI (tls.map D.str) i = some (.str (tls.getD i.toNat "")) := by
  refine atI_nn h0 ?_
  have : i.toNat < tls.length := by show i.toNat < 6; omega
  rw [List.getElem?_map, List.getD_eq_getElem?_getD, List.getElem?_eq_getElem this]; rfl
theorem tls_len (i : Nat) : (tls.getD i "").length ≤ 3 := by
  match i with
  | 0 => decide +kernel
  | 1 => decide +kernel
  | 2 => decide +kernel
  | 3 => decide +kernel
  | 4 => decide +kernel
  | 5 => decide +kernel
  | i + 6 => 
    rw [List.getD_eq_getElem?_getD, List.getElem?_eq_none (by show 6 ≤ i + 6; omega)]
    decide +kernel
def nmOf (d : Int) : Str := (⟨#[ltr.cps.toList.getD (d % 26).toNat 0]⟩ : Str) ++ tls.getD (d / 26 % 6).toNat ""
end DL
namespace DL
open PySem PySem.Spec PyProof.Rows L2
open PySem.W (AllAlike Sortable dataLe alike)
def loB (c : Nat) : Bool := decide (97 ≤ c) && decide (c ≤ 122)
def chB (c : Nat) : Bool := loB c || (decide (48 ≤ c) && decide (c ≤ 57))
def nameB (x : Str) : Bool := (decide (1 ≤ x.length) && decide (x.length ≤ 12)) && (loB (x.cps.toList.getD 0 0) && x.cps.toList.all chB)
structure Dev where
  k : Str
  g : Int
  a : Int
  b : Int
  w : Int
  l : Int
deriving DecidableEq
def Dev.e (v : Dev) : D := .tup [.str v.k, .int v.g, .int v.a, .int v.b, .int v.w, .int v.l]
abbrev Nm := Int × Str
structure DevOk (n : Int) (v : Dev) : Prop where
  k : v.k = ("n" : Str) ∨ v.k = ("p" : Str)
  g : 0 ≤ v.g ∧ v.g < n
  e : 0 ≤ v.a ∧ v.a ≤ v.b ∧ v.b < n
  w : 1 ≤ v.w
  l : 1 ≤ v.l
structure CirOk (n : Int) (N : List Nm) (V : List Dev) : Prop where
  nn : 0 ≤ n ∧ n ≤ 200
  nm : ∀ q ∈ N, (0 ≤ q.1 ∧ q.1 < n) ∧ nameB q.2 = true
  d1 : (N.map (·.1)).Nodup
  d2 : (N.map (·.2)).Nodup
  nl : N.length ≤ 1000
  vl : V.length ≤ 200
  dv : ∀ v ∈ V, DevOk n v
theorem at_first {x : Str} {k : Bool} (h : (!(decide ((1 : Int) ≤ (x.length : Int)) && k)) = false) : atI x.cps.toList 0 = some (x.cps.toList.getD 0 0) := by
  have h1 : 1 ≤ x.length := by
    simp only [Bool.not_eq_false', Bool.and_eq_true, decide_eq_true_eq] at h
    omega
  refine atI_nn (by decide) ?_
  have : (0 : Int).toNat < x.cps.toList.length := by rw [Array.length_toList]; exact h1
  rw [List.getElem?_eq_getElem this, List.getD_eq_getElem?_getD, List.getElem?_eq_getElem (by exact this)]
  rfl
theorem name_no {x : Str} (h : ((!(decide ((1 : Int) ≤ (x.length : Int)) && decide ((x.length : Int) ≤ 12))) || (!(decide (97 ≤ x.cps.toList.getD 0 0) && decide (x.cps.toList.getD 0 0 ≤ 122)))) = true) : nameB x = false := by
  unfold nameB loB
  rw [show decide (1 ≤ x.length) = decide ((1 : Int) ≤ (x.length : Int)) from decide_eq_decide.mpr (by omega), show decide (x.length ≤ 12) = decide ((x.length : Int) ≤ 12) from decide_eq_decide.mpr (by omega)]
  revert h
  generalize (decide ((1 : Int) ≤ (x.length : Int)) && decide ((x.length : Int) ≤ 12)) = p
  generalize (decide (97 ≤ x.cps.toList.getD 0 0) && decide (x.cps.toList.getD 0 0 ≤ 122)) = q
  cases p <;> cases q <;> simp
theorem name_yes {x : Str} (h : ((!(decide ((1 : Int) ≤ (x.length : Int)) && decide ((x.length : Int) ≤ 12))) || (!(decide (97 ≤ x.cps.toList.getD 0 0) && decide (x.cps.toList.getD 0 0 ≤ 122)))) = false) : nameB x = (x.cps.toList.map chB).all id := by
  unfold nameB loB
  rw [show decide (1 ≤ x.length) = decide ((1 : Int) ≤ (x.length : Int)) from decide_eq_decide.mpr (by omega), show decide (x.length ≤ 12) = decide ((x.length : Int) ≤ 12) from decide_eq_decide.mpr (by omega)]
  revert h
  generalize (decide ((1 : Int) ≤ (x.length : Int)) && decide ((x.length : Int) ≤ 12)) = p
  generalize (decide (97 ≤ x.cps.toList.getD 0 0) && decide (x.cps.toList.getD 0 0 ≤ 122)) = q
  cases p <;> cases q <;> simp [List.all_map]
theorem bc_tupSeq {X : Cx} {d : D} {ds : List D} (h : SeqD d ds) : BC X (.type "tuple") [d] (.tup ds) := by
  cases h with
  | lst => exact bc_tupL
  | tup => exact bc_tupT
end DL
namespace DL
open PySem PySem.Spec PyProof.Rows L2
def nmPre (d : Int) : Str := cutS (nmOf d) none (some 7)
def preOk (x : Str) : Bool := (decide (1 ≤ x.length) && decide (x.length ≤ 4)) && (loB (x.cps.toList.getD 0 0) && x.cps.toList.all chB)
theorem pre_all : ∀ a : Fin 26, ∀ b : Fin 6, preOk (cutS ((⟨#[ltr.cps.toList.getD a.val 0]⟩ : Str) ++ tls.getD b.val "") none (some 7)) = true := by decide +kernel
theorem pre_ok (d : Int) : preOk (nmPre d) = true := by
  have h1 : (d % 26).toNat < 26 := by omega
  have h2 : (d / 26 % 6).toNat < 6 := by omega
  exact pre_all ⟨_, h1⟩ ⟨_, h2⟩
def digB (c : Nat) : Bool := decide (48 ≤ c) && decide (c ≤ 57)
theorem dig_all : ∀ a : Fin 64, let x := Str.ofString (toString ((a.val : Nat) : Int)); (decide (1 ≤ x.length) && decide (x.length ≤ 2) && x.cps.toList.all digB) = true := by decide +kernel
theorem dig_inj : ∀ a b : Fin 64, (Str.ofString (toString ((a.val : Nat) : Int))).cps.toList = (Str.ofString (toString ((b.val : Nat) : Int))).cps.toList → a = b := by decide +kernel
theorem all_app {x y : Str} {p : Nat → Bool} : (x ++ y).cps.toList.all p = (x.cps.toList.all p && y.cps.toList.all p) := by
  show (x.cps ++ y.cps).toList.all p = _
  rw [Array.toList_append, List.all_append]
theorem len_app (x y : Str) : (x ++ y).length = x.length + y.length := Array.size_append
theorem cps_app (x y : Str) : (x ++ y).cps.toList = x.cps.toList ++ y.cps.toList := by
  show (x.cps ++ y.cps).toList = _
  rw [Array.toList_append]
theorem dig_ok {n : Nat} (h : n < 64) : (1 ≤ (Str.ofString (toString (n : Int))).length ∧ (Str.ofString (toString (n : Int))).length ≤ 2) ∧ (Str.ofString (toString (n : Int))).cps.toList.all digB = true := by
  have := dig_all ⟨n, h⟩
  simp only [Bool.and_eq_true, decide_eq_true_eq] at this
  exact this
theorem chB_of {c : Nat} (h : digB c = true) : chB c = true := by
  unfold chB; unfold digB at h; rw [h, Bool.or_true]
theorem tail_eq {x : Nat} {P P' D D' : List Nat} (hD : ∀ c ∈ D, c ≠ x) (hD' : ∀ c ∈ D', c ≠ x) (h : P ++ x :: D = P' ++ x :: D') : D = D' := by
  have h1 : ∀ (P D : List Nat), (∀ c ∈ D, c ≠ x) → ((P ++ x :: D).reverse.takeWhile (fun c => decide (c ≠ x))) = D.reverse := fun P D hD => by
    rw [List.reverse_append, List.reverse_cons, List.append_assoc, List.takeWhile_append_of_pos]
    · simp
    · intro c hc
      exact decide_eq_true (hD c (List.mem_reverse.mp hc))
  have := congrArg (fun l => l.reverse.takeWhile (fun c => decide (c ≠ x))) h
  simp only [h1 P D hD, h1 P' D' hD'] at this
  exact List.reverse_inj.mp this
def kindOf (r : Int) : Str := if r % 2 = 0 then "n" else "p"
theorem nmOf_len (d : Int) : (nmOf d).length ≤ sizeLine := by
  have h := tls_len (d / 26 % 6).toNat
  unfold nmOf
  rw [len_app, sizeLine_eq]
  have : (⟨#[ltr.cps.toList.getD (d % 26).toNat 0]⟩ : Str).length = 1 := rfl
  omega
theorem pre_len (d : Int) : (nmPre d).length ≤ 4 := by
  have h1 := pre_ok d
  unfold preOk at h1
  simp only [Bool.and_eq_true, decide_eq_true_eq] at h1
  exact h1.1.2
theorem log_small {n m : Nat} (h : n < m) (hm : m ≤ 100) : ((n : Int)).natAbs.log2 < 1920 := by
  rw [Int.natAbs_natCast]
  by_cases h0 : n = 0
  · subst h0; decide
  · rw [Nat.log2_lt h0]
    have : n < 2 ^ 7 := by omega
    exact Nat.lt_of_lt_of_le this (Nat.pow_le_pow_right (by decide) (show 7 ≤ 1920 by omega))
end DL
namespace DL
open PySem PySem.Spec PyProof.Rows L2
section
variable {X : Cx} {ρ : En} {elt tg iter : Expr} {scope : Scope} {ds : List D} {cpos pos : Pos} {Φ : Out → Prop}
variable {e a b : Expr} {d : D}
theorem drs_rep {K : PySem.W.Frag} {H : Hp} {ds : List D} {vs : List V} (h : DRs K H ds vs) : ∀ k : Nat, DRs K H (List.replicate k ds).flatten (List.replicate k vs).flatten
  | 0 => rfl
  | k + 1 => by
    rw [List.replicate_succ, List.replicate_succ, List.flatten_cons, List.flatten_cons]
    exact DRs.app h (drs_rep h k)
/-- xs * n, xs a new list -/
theorem eo_rep {n : Int} (ha : EO X ρ a (.lst ds)) (hb : ED X ρ b (.int n)) (h0 : 0 ≤ n) (h1 : n ≤ 1000000) (hl : ds.length * n.toNat ≤ sizeLine) : EO X ρ (.BinOp a .Mult b pos) (.lst (List.replicate n.toNat ds).flatten) := fun B0 B σ H0 H Q j k =>
  RE.of (pe_op op_rep pe_star pe_star) (ha B0 B σ H0 H _ j fun q o G0 G g w1 w2 w3 w4 => hb B0 B σ G0 G _ (j.grow g) fun w L0 L g2 r2 => by
    obtain ⟨vs, rfl, r⟩ := w4
    have gg := g.trans g2
    exact ⟨q, n, vs, rfl, r2, g2.sB _ _ w1, by omega, by omega, by rw [← DRs.length r]; exact hl, fun p hp => k p _ L0 _ (gg.trans (JH.own gg.sh hp)) upd_same (gg.sh.free hp) (gg.sB.free hp) ⟨_, rfl, drs_rep (DRs.mono g2.s0 _ _ r) _⟩⟩)
end
end DL
namespace DL
open PySem PySem.Spec PyProof.Rows L2
local instance (priority := 2000) keyBEq26 : BEq Key := instBEqOfDecidableEq
section
variable {X : Cx} {ρ : En} {pos : Pos}
theorem td_lend (i : Nat) {c : OC} {e : Expr} {k : Bool} (hi : ρ[i]? = some (.ow c)) (h : TD X (ρ.set i (.sh c.d)) e k) : TD X ρ e k := fun B0 B σ H0 H Q j kk => by
  obtain ⟨H1, j', s1⟩ := j.share hi
  exact h B0 B σ H1 H Q j' fun L0 L g => kk H0 L ⟨Same.refl _, (s1.trans g.s0).trans g.sh, g.sB, fun a o _ _ n => n⟩
end
end DL
namespace DL
open PySem PySem.Spec PyProof.Rows L2
/-- an own class of errors, over ValueError, without an __init__ of its own -/
structure Xc (K : PySem.W.Frag) (mg : Str → Option Value) (cn : Str) : Prop where
  ex : ∃ C, PySem.W.nsIn K mainGlobals cn = some (some (.ref C)) ∧ mg cn = some (.ref C) ∧ PySem.W.excIn K C [.type "ValueError", .type "Exception", .type "BaseException", .type "object"] "ValueError.__new__" = true ∧ PySem.W.keepIn K (.ref C) = true ∧
    PySem.W.subIn K (.ref C) (.type "BaseException") = some true ∧ PySem.W.typeIn K (.ref C) = some (.type "type") ∧ L2.ExcC K C
section
variable {X : Cx} {CX : CXT} {k : Nat} {f C : Addr} {fd : FuncData} {ps : List Str} {sp : Sp} {E : L2.St → XK} {x : Str} {p pos : Pos} {e : Expr} {es : List Expr} {t : TA}
theorem run_makeS {pins : List (Addr × Obj)} {σ : L2.St} {H : Hp} {s : Shared} {Q : VK} {us : List Value} {vs : List V} (M : Mk X.K C f) (F : FnOk X.prog X.w X.K X.mg X.base CX k f fd ps sp) (hr : Room (k + 1) X.A) (hb : Binds X.K fd ps []) 
    (hx : PassesAt CX X σ (E σ)) (I : Inv X pins σ H s) (r : Vals vs us)
    (h : ∀ x dx, H x = none → H dx = none → dx ≠ x → sp (.ref x :: vs) (upd (upd H dx (.own x)) x (.ins C dx [])) (fun v H2 => v = .non ∧ Q (.ref x) H2) (E σ)) :
    wpAny (model X.prog X.w) X.A (call (.ref C) us) (EP X pins σ Q) X.xe s := by
  have hq := h (s.heap.objs.size + 1) s.heap.objs.size (I.hok.fresh (Nat.le_succ _)) (I.hok.fresh (Nat.le_refl _)) (Nat.ne_of_lt (Nat.lt_succ_self _))
  have I2 := Inv.made (C := C) I
  have r2 : Vals (V.ref (s.heap.objs.size + 1) :: vs) (Value.ref (s.heap.objs.size + 1) :: us) := .cons rfl r
  have hl : (Value.ref (s.heap.objs.size + 1) :: us).length = ps.length := by
    have e := r2.length
    rw [F.len _ _ _ _ hq] at e
    exact e.symm
  have b := hb _ (Value.ref (s.heap.objs.size + 1) :: us) I2.kIn (by rw [List.append_nil]; exact hl)
  rw [List.append_nil] at b
  refine wpAny_call (make_map (f := f) I.kIn M.makes M.init (beq_iff_eq.mp M.fn) (codeAny_mono (F.run _ X.stack _ _ ⟨Value.ref (s.heap.objs.size + 1) :: us, []⟩ (Value.ref (s.heap.objs.size + 1) :: us) _ _ (E σ) (hr.make C us [])
    (I2.env0.make C us []) b r2 hq) fun r s' hq' => ?_))
  cases r with
  | error e => exact hx pins _ _ e s' I2 hq'
  | ok fl =>
    cases fl with
    | ret u =>
      obtain ⟨v, H', I3, rv, ev, q3⟩ := I2.after hq'
      subst ev
      exact ⟨rv, ⟨V.ref (s.heap.objs.size + 1), H', I3, rfl, q3⟩⟩
    | next => exact False.elim hq'
    | brk => exact False.elim hq'
    | cont => exact False.elim hq'
def tMakeS (C : Addr) (sp : Sp) (E : L2.St → XK) (t : TA) : TE := fun σ H Q => t σ H fun vs H1 => ∀ x dx, H1 x = none → H1 dx = none → dx ≠ x →
  sp (.ref x :: vs) (upd (upd H1 dx (.own x)) x (.ins C dx [])) (fun v H2 => v = .non ∧ Q (.ref x) H2) (E σ)
theorem pe_makeS (M : Mk X.K C f) (F : FnOk X.prog X.w X.K X.mg X.base CX k f fd ps sp) (hr : Room (k + 1) X.A) (hg : Gl X x) (hm : X.mg x = some (.ref C)) (hb : Binds X.K fd ps []) (hx : ∀ σ, PassesAt CX X σ (E σ))
    (ha : PA X (e :: es) t) (hdb : (x == ("__debug__" : Str)) = false := by decide) (he : starEach (e :: es) X.env = (false, eval e X.env) :: starEach es X.env := by rfl) (hpl : (backTo pos (starEach es X.env)).any (·.1) = false := by rfl) :
    PE X (.Call (.Name x p) (e :: es) [] pos) (tMakeS C sp E t) := by
  refine ⟨fun pins s σ H Q I h => ?_⟩
  refine wpAny_Call_Name_kw (ld_glob I hg hm ?_ hdb)
  refine PySem.W.callWith_K (h₀ := X.base) I.ok.mod.kin M.kp (thn (ha.run pos pins s σ H _ I h) fun us s1 ⟨vs, H1, I1, r, q⟩ => ⟨I1.kIn, ?_⟩) he hpl
  exact run_makeS M F hr hb (hx σ) I1 r q
end
/-- behind an except suite, its name is gone -/
def Aft (i : Nat) (Φ : Out → Prop) : Out → Prop
  | .nx ρ => Φ (.nx (ρ.set i .no))
  | .bk ρ => Φ (.bk (ρ.set i .no))
  | .ct ρ => Φ (.ct (ρ.set i .no))
  | o => Φ o
/-- isinstance(e, c): what K says of the classes named cn and c -/
theorem ed_isE {X : Cx} {a C D : Addr} {oe : Obj} {pn : List (Addr × Obj)} {ρ : En} {e : Expr} {c : Str} {b : Bool} {p1 p2 pos : Pos} (xc : L2.ExcC X.K C) (hz : L2.Zc (.ref C) none oe) (hf : ∃ vs, oe.data = .fields vs) (hg : Gl X "isinstance") (hm : X.mg "isinstance" = none) (hgc : Gl X c) (hmc : X.mg c = some (.ref D))
    (hk : PySem.W.kitOne X.K (.ref C) (.ref D) = some b) (he : ED (X.suite a ((a, oe) :: pn)) ρ e (.ad a)) (hdc : (c == ("__debug__" : Str)) = false := by decide +kernel)
    (h1 : starEach [e, .Name c p2] X.env = (false, eval e X.env) :: starEach [.Name c p2] X.env := by rfl) (h2 : starEach [.Name c p2] X.env = (false, eval (.Name c p2) X.env) :: starEach [] X.env := by rfl) (h3 : (backTo pos (starEach [.Name c p2] X.env)).any (·.1) = false := by rfl) :
    ED (X.suite a ((a, oe) :: pn)) ρ (.Call (.Name "isinstance" p1) [e, .Name c p2] [] pos) (.bl b) := fun B0 B σ H0 H Q j k => by
  refine RE.of (pe_callB (call_isE xc hz hf) hg hm bb_isinstance (pa_cons pe_star (pa_cons (pe_glob (v := .ref D) hgc hmc rfl hdc) pa_nil h2) h1) (by decide) (by decide) h1 h3) (he B0 B σ H0 H _ j fun v G0 G g r => ?_)
  cases (show v = .ref a from r)
  exact ⟨.ref D, .ref D, b, rfl, fun u h => h, hk, k _ G0 G g rfl⟩
/-- isinstance(e, (c1, c2)) -/
theorem call_isET {X : Cx} {a D : Addr} {oe : Obj} {pn : List (Addr × Obj)} (C : L2.ExcC X.K D) (hz : L2.Zc (.ref D) none oe) (hf : ∃ vs, oe.data = .fields vs) : CallR (X.suite a ((a, oe) :: pn)) (.builtin "isinstance")
    (fun xs H Q => ∃ (tp : Addr) (cs : List V) (us : List Value) (b : Bool), xs = [.ref a, .ref tp] ∧ H tp = some (.tup cs) ∧ Paired ClsV cs us ∧ PySem.W.kitAny X.K (.ref D) us = some b ∧ Q (.bl b) H) := by
  intro pins s σ H xs us Q I r h
  obtain ⟨tp, cs, ws, b, rfl, hT, k, e, q⟩ := h
  obtain ⟨u1, u2, rfl, r1, r2⟩ := vals2 r
  cases (show u2 = Value.ref tp from r2)
  cases (show u1 = Value.ref a from r1)
  obtain ⟨hget, _⟩ := I.pin (a, oe) (List.mem_append.mpr (.inl List.mem_cons_self))
  obtain ⟨vs, hv⟩ := hf
  have J : PySem.W.InstAt s.heap a oe D none := by
    obtain ⟨oc, od, oda, osl⟩ := oe
    obtain ⟨h1, h2⟩ := hz
    dsimp only at h1 h2 hv
    subst h1 h2 hv
    exact ⟨hget, rfl, rfl, trivial⟩
  obtain ⟨_, its, rv, o, h1, h2, n, h3⟩ := (show ObjOk X.prog X.w H s.heap tp (.tup cs) from I.hok tp _ hT)
  have e3 := ClsV.all k rv
  subst e3
  obtain ⟨oc, od, dt, sl⟩ := o
  simp only at h2 h3
  subst h2 h3
  exact PySem.W.kia_tup (PySem.W.handS_kitx_exc C.hg C.hk C.hs C.hd C.ha C.hn C.ht C.hm) I.kIn J h1 e (fun z => nomatch z) fun tk => ⟨.bl b, H, I.kept (t' := tk) fun _ _ z => z, rfl, q⟩
theorem ed_isE2 {X : Cx} {a C D1 D2 : Addr} {oe : Obj} {pn : List (Addr × Obj)} {ρ : En} {e : Expr} {c1 c2 : Str} {b : Bool} {kk : Nat} {p1 p2 p3 p4 pos : Pos} (xc : L2.ExcC X.K C) (hz : L2.Zc (.ref C) none oe) (hf : ∃ vs, oe.data = .fields vs) (hg : Gl X "isinstance") (hm : X.mg "isinstance" = none) (hg1 : Gl X c1) (hm1 : X.mg c1 = some (.ref D1)) (hg2 : Gl X c2) (hm2 : X.mg c2 = some (.ref D2))
    (hk : PySem.W.kitAny X.K (.ref C) [.ref D1, .ref D2] = some b) (he : ED (X.suite a ((a, oe) :: pn)) ρ e (.ad a)) (hd1 : (c1 == ("__debug__" : Str)) = false := by decide +kernel) (hd2 : (c2 == ("__debug__" : Str)) = false := by decide +kernel)
    (h1 : starEach [e, .Tuple [.Name c1 p2, .Name c2 p3] kk p4] X.env = (false, eval e X.env) :: starEach [.Tuple [.Name c1 p2, .Name c2 p3] kk p4] X.env := by rfl) (h2 : starEach [.Tuple [.Name c1 p2, .Name c2 p3] kk p4] X.env = (false, eval (.Tuple [.Name c1 p2, .Name c2 p3] kk p4) X.env) :: starEach [] X.env := by rfl)
    (h3 : (backTo pos (starEach [.Tuple [.Name c1 p2, .Name c2 p3] kk p4] X.env)).any (·.1) = false := by rfl) (h4 : starEach [.Name c1 p2, .Name c2 p3] X.env = (false, eval (.Name c1 p2) X.env) :: starEach [.Name c2 p3] X.env := by rfl) (h5 : starEach [.Name c2 p3] X.env = (false, eval (.Name c2 p3) X.env) :: starEach [] X.env := by rfl) :
    ED (X.suite a ((a, oe) :: pn)) ρ (.Call (.Name "isinstance" p1) [e, .Tuple [.Name c1 p2, .Name c2 p3] kk p4] [] pos) (.bl b) := fun B0 B σ H0 H Q j k => by
  refine RE.of (pe_callB (call_isET xc hz hf) hg hm bb_isinstance (pa_cons pe_star (pa_cons (pe_tup (pa_cons (pe_glob (v := .ref D1) hg1 hm1 rfl hd1) (pa_cons (pe_glob (v := .ref D2) hg2 hm2 rfl hd2) pa_nil h5) h4)) pa_nil h2) h1) (by decide) (by decide) h1 h3) (he B0 B σ H0 H _ j fun v G0 G g r => ?_)
  cases (show v = .ref a from r)
  refine ⟨by simp only [List.length_cons, List.length_nil]; decide, fun t ht => ?_⟩
  exact ⟨t, _, [.ref D1, .ref D2], b, rfl, upd_same, .cons (.own D1) (.cons (.own D2) .nil), hk, k _ _ _ (g.trans (JH.own g.sh ht)) rfl⟩
end DL
namespace DL
open PySem PySem.Spec PyProof.Rows L2
/-- the class named cn is caught by except xn -/
structure Xm (K : PySem.W.Frag) (mg : Str → Option Value) (cn xn : Str) : Prop where
  ex : ∃ C D, PySem.W.nsIn K mainGlobals cn = some (some (.ref C)) ∧ mg xn = some (.ref D) ∧ PySem.W.exmOne K (.ref C) (.ref D) = some true
/-- isinstance(e, c), e of the class named cn -/
structure Xi (K : PySem.W.Frag) (mg : Str → Option Value) (cn c : Str) (b : Bool) : Prop where
  ex : ∃ C D, PySem.W.nsIn K mainGlobals cn = some (some (.ref C)) ∧ mg c = some (.ref D) ∧ PySem.W.kitOne K (.ref C) (.ref D) = some b
theorem kit_ref {K : PySem.W.Frag} {C D : Addr} {b : Bool} (hd : PySem.W.hasDictIn K D = true) (ht : PySem.W.typeIn K (.ref D) = some (.type "type")) (h4 : PySem.W.subIn K (.ref C) (.ref D) = some b) (ne : (Value.ref C == Value.ref D) = false) : PySem.W.kitOne K (.ref C) (.ref D) = some b := by
  obtain ⟨cd, hc, _⟩ := PySem.W.any_some hd
  have e2 : ((PySem.W.clsIn K D).isSome && PySem.W.typeIn K (.ref D) == some (.type "type")) = true := by rw [hc, ht] <;> rfl
  unfold PySem.W.kitOne
  rw [if_neg (by rw [ne]; decide)]
  show (if ((PySem.W.clsIn K D).isSome && PySem.W.typeIn K (.ref D) == some (.type "type")) = true then PySem.W.subIn K (.ref C) (.ref D) else none) = some b
  rw [if_pos e2]
  exact h4
section
variable {X : Cx} {ρ ρx : En} {pos : Pos} {Φ : Out → Prop} {cn : Str} {rest sa : List Stmt}
theorem ed_isEN {a C : Addr} {oe : Obj} {pn : List (Addr × Obj)} {e : Expr} {c : Str} {b : Bool} {p1 p2 : Pos} (xc : Xc X.K X.mg cn) (xi : Xi X.K X.mg cn c b) (hC : PySem.W.nsIn X.K mainGlobals cn = some (some (.ref C))) (hz : L2.Zc (.ref C) none oe) (hf : ∃ vs, oe.data = .fields vs) (hg : Gl X "isinstance") (hm : X.mg "isinstance" = none) (hgc : Gl X c)
    (he : ED (X.suite a ((a, oe) :: pn)) ρ e (.ad a)) (hdc : (c == ("__debug__" : Str)) = false := by decide +kernel)
    (h1 : starEach [e, .Name c p2] X.env = (false, eval e X.env) :: starEach [.Name c p2] X.env := by rfl) (h2 : starEach [.Name c p2] X.env = (false, eval (.Name c p2) X.env) :: starEach [] X.env := by rfl) (h3 : (backTo pos (starEach [.Name c p2] X.env)).any (·.1) = false := by rfl) :
    ED (X.suite a ((a, oe) :: pn)) ρ (.Call (.Name "isinstance" p1) [e, .Name c p2] [] pos) (.bl b) := by
  obtain ⟨C1, hC1, _, _, _, _, _, hx⟩ := xc.ex
  obtain ⟨C2, D, hC2, hD, hk⟩ := xi.ex
  rw [hC] at hC1 hC2; cases hC1; cases hC2
  exact ed_isE hx hz hf hg hm hgc hD hk he hdc h1 h2 h3
theorem ed_isEN2 {a C : Addr} {oe : Obj} {pn : List (Addr × Obj)} {e : Expr} {c1 c2 : Str} {kk : Nat} {p1 p2 p3 p4 : Pos} (xc : Xc X.K X.mg cn) (x1 : Xi X.K X.mg cn c1 false) (x2 : Xi X.K X.mg cn c2 false) (hC : PySem.W.nsIn X.K mainGlobals cn = some (some (.ref C))) (hz : L2.Zc (.ref C) none oe) (hf : ∃ vs, oe.data = .fields vs) (hg : Gl X "isinstance") (hm : X.mg "isinstance" = none) (hg1 : Gl X c1) (hg2 : Gl X c2)
    (he : ED (X.suite a ((a, oe) :: pn)) ρ e (.ad a)) (hd1 : (c1 == ("__debug__" : Str)) = false := by decide +kernel) (hd2 : (c2 == ("__debug__" : Str)) = false := by decide +kernel)
    (h1 : starEach [e, .Tuple [.Name c1 p2, .Name c2 p3] kk p4] X.env = (false, eval e X.env) :: starEach [.Tuple [.Name c1 p2, .Name c2 p3] kk p4] X.env := by rfl) (h2 : starEach [.Tuple [.Name c1 p2, .Name c2 p3] kk p4] X.env = (false, eval (.Tuple [.Name c1 p2, .Name c2 p3] kk p4) X.env) :: starEach [] X.env := by rfl)
    (h3 : (backTo pos (starEach [.Tuple [.Name c1 p2, .Name c2 p3] kk p4] X.env)).any (·.1) = false := by rfl) (h4 : starEach [.Name c1 p2, .Name c2 p3] X.env = (false, eval (.Name c1 p2) X.env) :: starEach [.Name c2 p3] X.env := by rfl) (h5 : starEach [.Name c2 p3] X.env = (false, eval (.Name c2 p3) X.env) :: starEach [] X.env := by rfl) :
    ED (X.suite a ((a, oe) :: pn)) ρ (.Call (.Name "isinstance" p1) [e, .Tuple [.Name c1 p2, .Name c2 p3] kk p4] [] pos) (.bl false) := by
  obtain ⟨C1, hC1, _, _, _, _, _, hx⟩ := xc.ex
  obtain ⟨C2, D1, hC2, hD1, hk1⟩ := x1.ex
  obtain ⟨C3, D2, hC3, hD2, hk2⟩ := x2.ex
  rw [hC] at hC1 hC2 hC3; cases hC1; cases hC2; cases hC3
  exact ed_isE2 hx hz hf hg hm hg1 hD1 hg2 hD2 (by unfold PySem.W.kitAny; rw [hk1]; simp only; unfold PySem.W.kitAny; rw [hk2]; rfl) he hd1 hd2 h1 h2 h3 h4 h5
end
mutual
def noL : D → Bool
  | .lst _ => false
  | .tup ds => noLs ds
  | .dk _ ds => noLs ds
  | .dt _ ds => noLs ds
  | .obj _ _ ds => noLs ds
  | .ptp ds => noLs ds
  | .etp ds => noLs ds
  | .exc _ _ _ ds => noLs ds
  | _ => true
def noLs : List D → Bool
  | [] => true
  | d :: ds => noL d && noLs ds
end
theorem er_rd {H : Hp} {a : Addr} {xs : List V} (h : H a = some (.lst xs)) {b : Addr} {u : HO} (hu : ∀ ys, u ≠ .lst ys) (r : Rd H b u) : Rd (er H a) b u := by
  rcases r with r | ⟨o, r⟩
  · have : b ≠ a := fun e => by subst e; rw [h] at r; cases r; exact hu _ rfl
    exact .inl (by rw [er_ne this]; exact r)
  · have : b ≠ a := fun e => by subst e; rw [h] at r; cases r
    exact .inr ⟨o, by rw [er_ne this]; exact r⟩
theorem er_sqT {K : PySem.W.Frag} {H : Hp} {a : Addr} {xs : List V} (h : H a = some (.lst xs)) {b : Addr} {vs : List V} (r : SqT K H b vs) : SqT K (er H a) b vs := by
  rcases r with r | r
  · exact .inl (er_rd h (fun _ z => by cases z) r)
  · exact .inr r
mutual
theorem er_dr {K : PySem.W.Frag} {H : Hp} {a : Addr} {xs : List V} (h : H a = some (.lst xs)) : ∀ (d : D) (v : V), noL d = true → DR K H d v → DR K (er H a) d v
  | .non, v, _, r => r
  | .bl _, v, _, r => r
  | .int _, v, _, r => r
  | .str _, v, _, r => r
  | .ty _, v, _, r => r
  | .lst _, v, n, _ => by cases n
  | .tup ds, v, n, r => by
    obtain ⟨b, vs, h1, h2, h3⟩ := r
    exact ⟨b, vs, h1, er_sqT h h2, er_drs h ds vs n h3⟩
  | .dk ks ds, v, n, r => by
    obtain ⟨b, vs, h1, h2, h4, h3⟩ := r
    exact ⟨b, vs, h1, er_rd h (fun _ z => by cases z) h2, h4, er_drs h ds vs n h3⟩
  | .dt ks ds, v, n, r => by
    obtain ⟨b, vs, h1, h2, h4, h3⟩ := r
    exact ⟨b, vs, h1, er_rd h (fun _ z => by cases z) h2, h4, er_drs h ds vs n h3⟩
  | .obj cn ns ds, v, n, r => by
    obtain ⟨b, C, dx, vs, h1, hn, h2, h4, h3⟩ := r
    have : b ≠ a := fun e => by subst e; rw [h] at h2; cases h2
    exact ⟨b, C, dx, vs, h1, hn, by rw [er_ne this]; exact h2, h4, er_drs h ds vs n h3⟩
  | .ad _, v, _, r => r
  | .exc _ x ns ds, v, n, r => by
    obtain ⟨h1, vs, h2, h4, h3⟩ := r
    have : x ≠ a := fun e => by subst e; rw [h] at h2; cases h2
    exact ⟨h1, vs, by rw [er_ne this]; exact h2, h4, er_drs h ds vs n h3⟩
  | .etp ds, v, n, r => by
    obtain ⟨b, vs, h1, h2, h3⟩ := r
    have : b ≠ a := fun e => by subst e; rw [h] at h2; cases h2
    exact ⟨b, vs, h1, by rw [er_ne this]; exact h2, er_drs h ds vs n h3⟩
  | .ptp ds, v, n, r => by
    obtain ⟨b, o, vs, h1, h2, h4, h3⟩ := r
    have : b ≠ a := fun e => by subst e; rw [h] at h2; cases h2
    exact ⟨b, o, vs, h1, by rw [er_ne this]; exact h2, h4, er_drs h ds vs n h3⟩
theorem er_drs {K : PySem.W.Frag} {H : Hp} {a : Addr} {xs : List V} (h : H a = some (.lst xs)) : ∀ (ds : List D) (vs : List V), noLs ds = true → DRs K H ds vs → DRs K (er H a) ds vs
  | [], vs, _, r => r
  | d :: ds, vs, n, r => by
    obtain ⟨v, w, h1, h2, h3⟩ := r
    have n' : (noL d && noLs ds) = true := n
    rw [Bool.and_eq_true] at n'
    exact ⟨v, w, h1, er_dr h d v n'.1 h2, er_drs h ds w n'.2 h3⟩
end
theorem dr_two {K : PySem.W.Frag} {H : Hp} {d1 d2 e1 e2 : D} {v : V} (r : DR K H (.lst [d1, d2]) v) (h1 : ∀ u, DR K H d1 u → DR K H e1 u) (h2 : ∀ u, DR K H d2 u → DR K H e2 u) : DR K H (.lst [e1, e2]) v := by
  obtain ⟨p, vs, rfl, hp, u, w, rfl, r1, u2, w2, rfl, r2, r3⟩ := r
  exact ⟨p, _, rfl, hp, u, _, rfl, h1 u r1, u2, w2, rfl, h2 u2 r2, r3⟩
theorem J.lend2 {K : PySem.W.Frag} {B0 B H0 H : Hp} {σ : L2.St} {ρ : En} (j : J K B0 B σ H0 H ρ) {i : Nat} {a b : Addr} {da db : List D} (h : ρ[i]? = some (.ox [(a, .lst da), (b, .lst db)] (.lst [.ad a, .ad b]))) :
    ∃ va vb, b ≠ a ∧ H0 a = none ∧ H0 b = none ∧ J K B0 B σ (upd (upd H0 a (.lst va)) b (.lst vb)) H (ρ.set i (.sh (.lst [.lst da, .lst db]))) := by
  obtain ⟨ov, e1, ⟨v, rfl, rv⟩, hcs, hnd⟩ := j.get h
  have hne : b ≠ a := fun z => by
    subst z
    simp at hnd
  obtain ⟨oa, a1, a2, a3, va, rfl, a4⟩ := (hcs (a, .lst da) (by simp)).ex
  obtain ⟨ob, b1, b2, b3, vb, rfl, b4⟩ := (hcs (b, .lst db) (by simp)).ex
  have s0 : Same H0 (upd H0 a (.lst va)) := fun x u e => upd_keep e (fun z => by subst z; rw [a2] at e; cases e)
  obtain ⟨j1, _⟩ := j.shareAt (a := a) (c := .lst da) (s' := .ox [(b, .lst db)] (.lst [.lst da, .ad b])) h e1 (by show a ∈ _; simp) a1 ⟨va, rfl, a4⟩ (fun x w => by
    have w' : x ∈ ([(b, OC.lst db)] : List (Addr × OC)).map (·.1) := w
    simp only [List.map_cons, List.map_nil, List.mem_singleton] at w'
    subst w'
    exact ⟨by show x ∈ _; simp, hne⟩) (fun r => ⟨⟨v, rfl, dr_two (DR.mono s0 _ _ rv) (fun u q => by cases (show u = .ref a from q); exact r) (fun u q => q)⟩, fun p hp => by
      rw [List.mem_singleton] at hp; subst hp
      exact ⟨_, b1, by rw [upd_ne hne]; exact b2, b3, vb, rfl, DRs.mono s0 _ _ b4⟩, by simp⟩)
  have hi : i < ρ.length := (List.getElem?_eq_some_iff.mp h).1
  obtain ⟨j2, _⟩ := j1.shareAt (i := i) (a := b) (c := .lst db) (s := .ox [(b, .lst db)] (.lst [.lst da, .ad b])) (s' := .sh (.lst [.lst da, .lst db])) (by rw [List.getElem?_set_self hi]) e1 (by show b ∈ _; simp) b1 ⟨vb, rfl, DRs.mono s0 _ _ b4⟩ (fun x w => w.elim) (fun r => by
    have s1 : Same (upd H0 a (.lst va)) (upd (upd H0 a (.lst va)) b (.lst vb)) := fun x u e => upd_keep e (fun z => by subst z; rw [upd_ne hne, b2] at e; cases e)
    obtain ⟨ov', e1', ⟨v', e2', rv'⟩, _⟩ := j1.get (i := i) (by rw [List.getElem?_set_self hi])
    rw [e1] at e1'; cases e1'; cases e2'
    exact ⟨v, rfl, dr_two (DR.mono s1 _ _ rv') (fun u q => q) (fun u q => by cases (show u = .ref b from q); exact r)⟩)
  rw [List.set_set] at j2
  exact ⟨va, vb, hne, a2, b2, j2⟩
section
variable {X : Cx} {ρ : En} {pos : Pos} {Φ : Out → Prop} {e : Expr}
/-- two own lists, lent to what makes an instance without lists -/
theorem eo_lend2 (i : Nat) {a b : Addr} {da db : List D} {cn : Str} {ns : List Str} {zs : List D} (hi : ρ[i]? = some (.ox [(a, .lst da), (b, .lst db)] (.lst [.ad a, .ad b]))) (hz : noLs zs = true) (h : EO X (ρ.set i (.sh (.lst [.lst da, .lst db]))) e (.ins cn ns zs)) : EO X ρ e (.ins cn ns zs) := fun B0 B σ H0 H Q j kk => by
  obtain ⟨va, vb, hne, a0, b0, j'⟩ := j.lend2 hi
  refine h B0 B σ _ H Q j' fun p o L0 L g e1 e2 e3 r => ?_
  have la : L0 a = some (.lst va) := g.s0 _ _ (by rw [upd_ne (Ne.symm hne)]; exact upd_same)
  have lb : er L0 a b = some (.lst vb) := by rw [er_ne hne]; exact g.s0 _ _ upd_same
  have keep : ∀ x u, H0 x = some u → x ≠ a ∧ x ≠ b := fun x u q => ⟨fun z => (by subst z; rw [a0] at q; cases q), fun z => (by subst z; rw [b0] at q; cases q)⟩
  refine kk p o (er (er L0 a) b) L ⟨fun x u q => ?_, (er_sub.trans er_sub).trans g.sh, g.sB, fun x u q nt q' => ?_⟩ e1 ?_ e3 ?_
  · obtain ⟨n1, n2⟩ := keep x u q
    rw [er_ne n2, er_ne n1]
    exact g.s0 _ _ (by rw [upd_ne n2, upd_ne n1]; exact q)
  · by_cases xb : x = b
    · subst xb; exact er_same
    · rw [er_ne xb]
      by_cases xa : x = a
      · subst xa; exact er_same
      · rw [er_ne xa]
        exact g.fr x u q nt (by rw [upd_ne xb, upd_ne xa]; exact q')
  · by_cases xb : p = b
    · subst xb; exact er_same
    · rw [er_ne xb]
      by_cases xa : p = a
      · subst xa; exact er_same
      · rw [er_ne xa]; exact e2
  · obtain ⟨vs, C, dx, rfl, hC, hl, hv⟩ := r
    exact ⟨vs, C, dx, rfl, hC, hl, er_drs lb zs vs hz (er_drs la zs vs hz hv)⟩
/-- x = [e1, e2], two new lists in a list -/
theorem ws_set2O (i : Nat) {x : Str} {ea eb : Expr} {da db : List D} {pos' p2 : Pos} (hN : X.N.Nodup) (ha : EO X ρ ea (.lst da)) (hb : EO X ρ eb (.lst db)) (hΦ : ∀ a b, a ≠ b → Φ (.nx (ρ.set i (.ox [(a, .lst da), (b, .lst db)] (.lst [.ad a, .ad b]))))) (hi : X.N[i]? = some x := by rfl) (hx : Loc X.env.scope x := by first | exact Or.inl rfl | exact Or.inr rfl)
    (hs : swapsWith (.List [ea, eb] p2) (some (.Name x pos')) pos.line X.env = pure false := by rfl) (hf : X.fn x = true ∨ X.env.scope.names.lookup x = some .local := by first | exact .inl rfl | exact .inr rfl)
    (s1 : starEach [ea, eb] X.env = (false, eval ea X.env) :: starEach [eb] X.env := by rfl) (s2 : starEach [eb] X.env = (false, eval eb X.env) :: starEach [] X.env := by rfl) : WS X (.Assign [.Name x pos'] (.List [ea, eb] p2) pos) ρ Φ := fun B0 B σ H0 H Dn j k => by
  refine ⟨_, ps_set hN hi hx (pe_lst (pa_cons pe_star (pa_cons pe_star pa_nil s2) s1)) hs hf, ha B0 B σ H0 H _ j fun a oa G0 G g a1 a2 a3 a4 => hb B0 B σ G0 G _ (j.grow g) fun b ob L0 L g2 b1 b2 b3 b4 => ?_⟩
  have hab : a ≠ b := fun z => by subst z; rw [a1] at b3; cases b3
  refine ⟨by simp only [List.length_cons, List.length_nil]; decide, fun l hl => ?_⟩
  have g12 := g.trans g2
  have La : L a = some oa := g2.sB _ _ a1
  have L0a : L0 a = none := g2.fr _ _ a1 (OCR.nt a4) a2
  have g3 : JH L0 L (upd L0 l (.lst [.ref a, .ref b])) (upd L l (.lst [.ref a, .ref b])) := JH.new g2.sh hl
  have la : a ≠ l := fun z => by subst z; rw [hl] at La; cases La
  have lb : b ≠ l := fun z => by subst z; rw [hl] at b1; cases b1
  have j3 := ((j.grow g).grow g2).grow g3
  have s3 : Same L0 (upd L0 l (.lst [.ref a, .ref b])) := g3.s0
  refine k _ (hΦ a b hab) _ _ _ (j3.setTo (i := i) (s := .ox [(a, .lst da), (b, .lst db)] (.lst [.ad a, .ad b])) (ov := some (.ref l)) ⟨⟨.ref l, rfl, l, _, rfl, .inl (.inl upd_same), .ref a, _, rfl, rfl, .ref b, _, rfl, rfl, rfl⟩, fun p hp => ?_, by simp [hab]⟩ fun x w m s' ov' hm q1 q2 w2 => ?_)
  · simp only [List.mem_cons, List.not_mem_nil, or_false] at hp
    rcases hp with rfl | rfl
    · exact ⟨oa, by rw [upd_ne la]; exact La, by rw [upd_ne la]; exact L0a, j.hp.sB.free a3, (OCR.mono (g2.s0.trans s3) a4)⟩
    · exact ⟨ob, by rw [upd_ne lb]; exact b1, by rw [upd_ne lb]; exact b2, (j.hp.sB.trans g.sB).free b3, (OCR.mono s3 b4)⟩
  · have w' : x ∈ ([(a, OC.lst da), (b, OC.lst db)] : List (Addr × OC)).map (·.1) := w
    simp only [List.map_cons, List.map_nil, List.mem_cons, List.not_mem_nil, or_false] at w'
    obtain ⟨o', h1, _⟩ := j.own q1 q2 w2
    rcases w' with rfl | rfl
    · rw [a3] at h1; cases h1
    · have := g.sB _ _ h1
      rw [b3] at this; cases this
end
end DL
namespace DL
open PySem PySem.Spec PyProof.Rows L2
section
variable {X : Cx} {ρ : En} {e : Expr} {pos : Pos} {cn f : Str} {ns fs : List Str} {ds : List D} {d : D}
/-- x.extend(e), x the list that slot i owns, e a new list -/
theorem ws_extendL (i : Nat) {x : Str} {zs : List D} {p1 p2 p3 : Pos} {Φ : Out → Prop} (hi : ρ[i]? = some (.ow (.lst ds))) (he : EO X ρ e (.lst zs)) (hl : ds.length + zs.length ≤ sizeLine) (hΦ : Φ (.nx (ρ.set i (.ow (.lst (ds ++ zs))))))
    (hpe : ∀ {ta : TA}, PA X [e] ta → PS X (.Expr (.Call (.Attribute (.Name x p1) "extend" p2) [e] [] p3) pos) (tDrop (tBM X.K "list" rExtend (tVar i) ta)))
    (hs : starEach [e] X.env = (false, eval e X.env) :: starEach [] X.env := by rfl) :
    WS X (.Expr (.Call (.Attribute (.Name x p1) "extend" p2) [e] [] p3) pos) ρ Φ := fun B0 B σ H0 H Dn j k => by
  obtain ⟨ov, e0, a, o, rfl, w1, w2, w3, w4⟩ := j.get hi
  obtain ⟨vs0, rfl, r0⟩ := w4
  refine ⟨_, hpe (pa_cons pe_star pa_nil hs), _, e0, Or.inl ⟨rfl, _, Or.inl (Or.inl w1)⟩, he B0 B σ H0 H _ j fun q o G0 G g y1 y2 y3 y4 => ?_⟩
  obtain ⟨ws, rfl, rw⟩ := y4
  have j1 := j.grow g
  obtain ⟨ov, e1, a', o, e9, w1, w2, w3, w4⟩ := j1.get hi
  rw [e0] at e1; cases e1; cases e9
  obtain ⟨vs, rfl, r'⟩ := w4
  exact ⟨a, q, vs, ws, rfl, rfl, w1, y1, by rw [← DRs.length r', ← DRs.length rw]; exact hl, k _ hΦ _ G0 _ (j1.write hi e0 ⟨_, rfl, DRs.app r' rw⟩)⟩
end
end DL
namespace DL
open PySem PySem.Spec PyProof.Rows L2
theorem kit_ty {K : PySem.W.Frag} {C : Addr} {T : String} {b : Bool} (h4 : PySem.W.subIn K (.ref C) (.type T) = some b) (hm : PySem.W.kitMeta T = true := by decide +kernel) : PySem.W.kitOne K (.ref C) (.type T) = some b := by
  unfold PySem.W.kitOne
  rw [if_neg (show ¬ ((Value.ref C == Value.type T) = true) from Bool.false_ne_true)]
  show (if PySem.W.kitMeta T = true then PySem.W.subIn K (.ref C) (.type T) else none) = some b
  rw [if_pos hm]; exact h4
end DL
namespace DL
open PySem PySem.Spec PyProof.Rows L2
def layN : List Str := ["well", "active", "poly", "contact", "metal", "via", "top"]
def labN : List Str := ["active", "poly", "metal", "top"]
abbrev Shp := Str × Bx
def shB (s : Shp) : Bool := decide (s.1 ∈ layN) && (decide (s.2.a < s.2.c) && decide (s.2.b < s.2.d))
structure Lab where
  n : Str
  l : Str
  x : Int
  y : Int
def Lab.e (v : Lab) : D := .tup [.str v.n, .str v.l, .int v.x, .int v.y]
def labB (v : Lab) : Bool := nameB v.n && decide (v.l ∈ labN)
structure Pla where
  n : Str
  t : Int
  dx : Int
  dy : Int
  c : Int
  r : Int
  sx : Int
  sy : Int
def Pla.e (v : Pla) : D := .tup [.str v.n, .tup [.int v.t, .int v.dx, .int v.dy], .int v.c, .int v.r, .int v.sx, .int v.sy]
def plaB (v : Pla) : Bool := nameB v.n && ((decide (0 ≤ v.t) && decide (v.t < 8)) && ((decide (1 ≤ v.c) && decide (v.c ≤ 100)) && (decide (1 ≤ v.r) && decide (v.r ≤ 100))))
def celB (n : Str) (S : List Shp) (L : List Lab) (P : List Pla) : Bool := nameB n && (S.all shB && (L.all labB && P.all plaB))
structure CelOk (n : Str) (S : List Shp) (L : List Lab) (P : List Pla) : Prop where
  n : nameB n = true
  s : ∀ x ∈ S, shB x = true
  l : ∀ x ∈ L, labB x = true
  p : ∀ x ∈ P, plaB x = true
theorem CelOk.b {n : Str} {S : List Shp} {L : List Lab} {P : List Pla} (ok : CelOk n S L P) : celB n S L P = true := by
  unfold celB
  rw [ok.n, List.all_eq_true.mpr ok.s, List.all_eq_true.mpr ok.l, List.all_eq_true.mpr ok.p]; rfl
theorem at_getC {α : Type} {xs : List α} {f : α → D} {i : Int} {a : α} (h : 0 ≤ i ∧ i < xs.length) : atI (xs.map f) i = some (f (xs.getD i.toNat a)) := by
  have hi : i.toNat < xs.length := by omega
  refine atI_nn h.1 ?_
  rw [List.getElem?_map, List.getElem?_eq_getElem hi, List.getD_eq_getElem?_getD, List.getElem?_eq_getElem hi]
  rfl
def MD : Nat → D → Prop
  | 0, d => (∃ i, d = .int i) ∨ ∃ z, d = .str z
  | k + 1, d => ((∃ i, d = .int i) ∨ ∃ z, d = .str z) ∨ ∃ es, d = .tup es ∧ es.length ≤ 1000 ∧ ∀ e ∈ es, MD k e
class MdC (k : Nat) (d : D) (P : outParam Prop) where
  out : MD k d → P
instance (d : D) : MdC 0 d ((∃ i, d = .int i) ∨ ∃ z, d = .str z) := ⟨fun h => h⟩
instance (k : Nat) (d : D) : MdC (k + 1) d ((∃ i, d = .int i) ∨ (∃ z, d = .str z) ∨ ∃ es, d = .tup es ∧ es.length ≤ 1000 ∧ ∀ e ∈ es, MD k e) := ⟨fun h => by
  rcases h with (h | h) | h
  · exact .inl h
  · exact .inr (.inl h)
  · exact .inr (.inr h)⟩
theorem md_cases {k : Nat} {d : D} {P : Prop} [c : MdC k d P] (h : MD k d) : P := c.out h
theorem getD_mem {α : Type} {xs : List α} {i : Int} {a : α} (h : 0 ≤ i ∧ i < xs.length) : xs.getD i.toNat a ∈ xs := by
  have hi : i.toNat < xs.length := by omega
  rw [List.getD_eq_getElem?_getD, List.getElem?_eq_getElem hi]
  exact List.getElem_mem hi
theorem cutT1 (l : List D) {k : Int} (h : 0 ≤ k) : cutD l (some k) none = l.drop k.toNat := by
  unfold cutD
  show (l.drop (HT.sIx l.length 0 (some k))).take (l.length - HT.sIx l.length 0 (some k)) = _
  have e : HT.sIx l.length 0 (some k) = min k.toNat l.length := by
    unfold HT.sIx; simp only; split <;> omega
  rw [e, List.take_of_length_le (by rw [List.length_drop]; exact Nat.le_refl _)]
  by_cases hk : k.toNat ≤ l.length
  · rw [Nat.min_eq_left hk]
  · rw [Nat.min_eq_right (by omega), List.drop_eq_nil_of_le (Nat.le_refl _), List.drop_eq_nil_of_le (by omega)]
theorem cutT2 (l : List D) {k : Int} (h : 0 ≤ k) : cutD l none (some k) = l.take k.toNat := by
  unfold cutD
  show (l.drop 0).take (HT.sIx l.length l.length (some k) - 0) = _
  have e : HT.sIx l.length l.length (some k) = min k.toNat l.length := by
    unfold HT.sIx; simp only; split <;> omega
  rw [e, List.drop_zero, Nat.sub_zero]
  by_cases hk : k.toNat ≤ l.length
  · rw [Nat.min_eq_left hk]
  · rw [Nat.min_eq_right (by omega), List.take_of_length_le (Nat.le_refl _), List.take_of_length_le (by omega)]
theorem MD.up : ∀ {k : Nat} {d : D}, MD k d → MD (k + 1) d
  | 0, d, h => .inl h
  | k + 1, d, h => by
    rcases h with h | ⟨es, e, h1, h2⟩
    · exact .inl h
    · exact .inr ⟨es, e, h1, fun x hx => MD.up (h2 x hx)⟩
theorem md_int {k : Nat} {i : Int} : MD k (.int i) := by
  cases k with
  | zero => exact .inl ⟨i, rfl⟩
  | succ k => exact .inl (.inl ⟨i, rfl⟩)
theorem md_str {k : Nat} {z : Str} : MD k (.str z) := by
  cases k with
  | zero => exact .inr ⟨z, rfl⟩
  | succ k => exact .inl (.inr ⟨z, rfl⟩)
theorem md_tup {k : Nat} {es : List D} (h : es.length ≤ 1000) (h2 : ∀ e ∈ es, MD k e) : MD (k + 1) (.tup es) := .inr ⟨es, rfl, h, h2⟩
theorem md_nil {k : Nat} : ∀ e ∈ ([] : List D), MD k e := fun e he => by simp at he
theorem md_cons {k : Nat} {d : D} {ds : List D} (h : MD k d) (r : ∀ e ∈ ds, MD k e) : ∀ e ∈ d :: ds, MD k e := fun e he => by
  rcases List.mem_cons.mp he with rfl | he
  · exact h
  · exact r e he
def nmX (n : Str) (d : Int) : Str := ([n, "abcdefgh1234", "q"] : List Str).getD (d % 3).toNat ""
theorem nmX_ok {n : Str} {d : Int} (h : nameB n = true) : nameB (nmX n d) = true := by
  have hm := getD_mem (xs := ([n, "abcdefgh1234", "q"] : List Str)) (i := d % 3) (a := "") (by show _ ∧ _ < (3 : Int); omega)
  have hm2 : nmX n d ∈ ([n, "abcdefgh1234", "q"] : List Str) := hm
  simp only [List.mem_cons, List.not_mem_nil, or_false] at hm2
  rcases hm2 with e | e | e <;> rw [e]
  · exact h
  · decide +kernel
  · decide +kernel
def zzP (d : Int) : Pla := ⟨"zz", 7, 100000000000000000000, -5, 100, 1 + d % 100, -d, 1000000000000000⟩
theorem zzP_ok (d : Int) : plaB (zzP d) = true := by
  unfold plaB
  rw [show nameB (zzP d).n = true from (by decide +kernel : nameB "zz" = true)]
  simp only [Bool.true_and, Bool.and_eq_true, decide_eq_true_eq]
  exact ⟨⟨by show (0 : Int) ≤ 7; decide, by show (7 : Int) < 8; decide⟩, ⟨by show (1 : Int) ≤ 100; decide, by show (100 : Int) ≤ 100; decide⟩, show 1 ≤ 1 + d % 100 by omega, show 1 + d % 100 ≤ 100 by omega⟩
theorem CelOk.more {n : Str} {S : List Shp} {L : List Lab} {P : List Pla} (ok : CelOk n S L P) (d : Int) : CelOk (nmX n d) S L (P ++ [zzP d]) := ⟨nmX_ok ok.n, ok.s, ok.l, fun x hx => by
  rcases List.mem_append.mp hx with h | h
  · exact ok.p x h
  · rw [List.mem_singleton] at h; subst h; exact zzP_ok d⟩
end DL
namespace DL
open PySem PySem.Spec PyProof.Rows L2
theorem CirOk.perm {n : Int} {N M : List Nm} {V : List Dev} (ok : CirOk n N V) (p : M.Perm N) : CirOk n M V :=
  ⟨ok.nn, fun q hq => ok.nm q (p.mem_iff.mp hq), (p.map _).nodup_iff.mpr ok.d1, (p.map _).nodup_iff.mpr ok.d2, by rw [p.length_eq]; exact ok.nl, ok.vl, ok.dv⟩
theorem CirOk.filter {n : Int} {N : List Nm} {V : List Dev} (ok : CirOk n N V) (p : Nm → Bool) : CirOk n (N.filter p) V :=
  ⟨ok.nn, fun q hq => ok.nm q (List.mem_filter.mp hq).1, ok.d1.sublist (List.Sublist.map _ List.filter_sublist), ok.d2.sublist (List.Sublist.map _ List.filter_sublist), Nat.le_trans (List.length_filter_le _ _) ok.nl, ok.vl, ok.dv⟩
end DL
namespace DL
open PySem PySem.Spec PyProof.Rows L2
theorem c2_notInSq {X : Cx} {p1 p2 : Int} {ks : List Sq} (hu : X.A.units + 64 < cLine) : C2 X .NotIn (.tup [.int p1, .int p2]) (dicD ks).d (.bl (!decide ((p1, p2) ∈ ks))) := ⟨_, op_notInSq (by omega), fun H0 H x y Q s r1 r2 kk => by
  obtain ⟨b, vs, rfl, f1, r⟩ := r1
  obtain ⟨u, w, rfl, e2, e3⟩ := r.two
  cases (show u = .int p1 from e2); cases (show w = .int p2 from e3)
  obtain ⟨a, rfl, h1⟩ := dr_dic r2
  exact ⟨a, b, _, kq (p1, p2), rfl, rfl, Same.rd s h1, Same.seqT s f1, by rw [tT_val]; exact kk _ H0 H (JH.refl s) rfl⟩⟩
end DL
namespace DL
open PySem PySem.Spec PyProof.Rows L2
theorem DevOk.up {n m : Int} {v : Dev} (h : DevOk n v) (hm : n ≤ m) : DevOk m v := ⟨h.k, ⟨h.g.1, by have := h.g.2; omega⟩, ⟨h.e.1, h.e.2.1, by have := h.e.2.2; omega⟩, h.w, h.l⟩
theorem CirOk.up {n : Int} {N : List Nm} {V : List Dev} (ok : CirOk n N V) (h : n ≤ 100) : CirOk (n + 1) N V :=
  ⟨by have := ok.nn; omega, fun q hq => ⟨by have := (ok.nm q hq).1; omega, (ok.nm q hq).2⟩, ok.d1, ok.d2, ok.nl, ok.vl, fun v hv => (ok.dv v hv).up (by omega)⟩
theorem CirOk.more {n : Int} {N : List Nm} {V : List Dev} {z : Str} (ok : CirOk n N V) (h : n ≤ 100) (hl : N.length ≤ 100) (hz : nameB z = true) (hn : ∀ q ∈ N, q.2 ≠ z) : CirOk (n + 1) (N ++ [(n, z)]) V := by
  have up := ok.up h
  refine ⟨up.nn, fun q hq => ?_, ?_, ?_, by rw [List.length_append]; simp only [List.length_cons, List.length_nil]; omega, ok.vl, up.dv⟩
  · rcases List.mem_append.mp hq with hq | hq
    · exact up.nm q hq
    · rw [List.mem_singleton] at hq; subst hq
      exact ⟨by have := ok.nn; simp only; omega, hz⟩
  · rw [List.map_append, List.nodup_append]
    refine ⟨ok.d1, by simp, fun a ha b hb e => ?_⟩
    obtain ⟨q, hq, rfl⟩ := List.mem_map.mp ha
    simp only [List.map_cons, List.map_nil, List.mem_singleton] at hb
    have := (ok.nm q hq).1
    omega
  · rw [List.map_append, List.nodup_append]
    refine ⟨ok.d2, by simp, fun a ha b hb e => ?_⟩
    obtain ⟨q, hq, rfl⟩ := List.mem_map.mp ha
    simp only [List.map_cons, List.map_nil, List.mem_singleton] at hb
    exact hn q hq (e.trans hb)
theorem CirOk.devs {n : Int} {N : List Nm} {V W : List Dev} (ok : CirOk n N V) (h : W.length ≤ 200) (hd : ∀ v ∈ W, DevOk n v) : CirOk n N W := ⟨ok.nn, ok.nm, ok.d1, ok.d2, ok.nl, h, hd⟩
theorem CirOk.names {n : Int} {N M : List Nm} {V : List Dev} (ok : CirOk n N V) (h : M.Sublist N) : CirOk n M V :=
  ⟨ok.nn, fun q hq => ok.nm q (h.subset hq), (h.map _).nodup ok.d1, (h.map _).nodup ok.d2, Nat.le_trans h.length_le ok.nl, ok.vl, ok.dv⟩
def zz : Str := "zz9z"
theorem zz_ok : nameB zz = true := by decide +kernel
def wid (v : Dev) : Dev := ⟨v.k, v.g, v.a, v.b, v.w + 1, v.l⟩
theorem wid_ok {n : Int} {v : Dev} (h : DevOk n v) : DevOk n (wid v) := ⟨h.k, h.g, h.e, by have := h.w; show 1 ≤ v.w + 1; omega, h.l⟩
/-- all the law needs of a drawn circuit -/
structure Drn (n : Int) (N : List Nm) (V : List Dev) : Prop where
  ok : CirOk n N V
  n : n ≤ 14
  nl : N.length ≤ 14
  vl : V.length ≤ 12
  z : ∀ q ∈ N, q.2 ≠ zz
section
variable {n : Int} {N : List Nm} {V V0 : List Dev} {v : Dev}
theorem Drn.a (h : Drn n N V) : CirOk (n + 1) N V := h.ok.up (by have := h.n; omega)
theorem Drn.b (h : Drn n N V) : CirOk (n + 1) (N ++ [(n, zz)]) V := h.ok.more (by have := h.n; omega) (by have := h.nl; omega) zz_ok h.z
theorem Drn.c (h : Drn n N V) (e : V = V0 ++ [v]) : CirOk n N V0 := h.ok.devs (by have := h.vl; rw [e, List.length_append] at this; omega) fun w hw => h.ok.dv w (by rw [e]; simp [hw])
theorem Drn.d (h : Drn n N V) (e : V = V0 ++ [v]) : CirOk n N (V ++ [v]) := h.ok.devs (by have := h.vl; rw [List.length_append]; simp only [List.length_cons, List.length_nil]; omega) fun w hw => by
  rcases List.mem_append.mp hw with hw | hw
  · exact h.ok.dv w hw
  · rw [List.mem_singleton] at hw; subst hw; exact h.ok.dv w (by rw [e]; simp)
theorem Drn.e (h : Drn n N V) (e : V = V0 ++ [v]) : CirOk n N (V0 ++ [wid v]) := h.ok.devs (by have := h.vl; rw [e] at this; rw [List.length_append] at this ⊢; exact Nat.le_trans this (by omega)) fun w hw => by
  rcases List.mem_append.mp hw with hw | hw
  · exact h.ok.dv w (by rw [e]; simp [hw])
  · rw [List.mem_singleton] at hw; subst hw; exact wid_ok (h.ok.dv v (by rw [e]; simp))
theorem Drn.f (h : Drn n N V) : CirOk n N V.reverse := h.ok.devs (by rw [List.length_reverse]; have := h.vl; omega) fun w hw => h.ok.dv w (List.mem_reverse.mp hw)
theorem Drn.g (h : Drn n N V) : CirOk n (N.drop 1) V := h.ok.names (List.drop_sublist 1 N)
theorem Drn.r (h : Drn n N V) : CirOk n N.reverse V := h.ok.perm N.reverse_perm
end
end DL
namespace DL
open PySem PySem.Spec PyProof.Rows L2
local instance (priority := 2000) keyBEq6 : BEq Key := instBEqOfDecidableEq
def badNm : List Str := ["", "a234567890123", "Ab", "a_b", "9a", "a-", "aB1", "a."]
theorem badNm_no : ∀ x ∈ badNm, nameB x = false ∧ x.length ≤ 1000 := by
  have : badNm.all (fun x => !nameB x && decide (x.length ≤ 1000)) = true := by decide +kernel
  intro x hx
  have h := List.all_eq_true.mp this x hx
  simp only [Bool.and_eq_true, Bool.not_eq_true', decide_eq_true_eq] at h
  exact h
def badAt (d : Int) : Str := badNm.getD (d % 8).toNat ""
theorem badAt_no (d : Int) : nameB (badAt d) = false ∧ (badAt d).length ≤ 1000 := by
  refine badNm_no _ ?_
  unfold badAt
  have h1 := Int.emod_nonneg d (b := 8) (by decide)
  have h2 := Int.emod_lt_of_pos d (b := 8) (by decide)
  have hi : (d % 8).toNat < badNm.length := by show _ < 8; omega
  rw [List.getD_eq_getElem?_getD, List.getElem?_eq_getElem hi]
  exact List.getElem_mem hi
theorem at_getI {α : Type} {xs : List α} {f : α → D} {i : Int} {a : α} (h : 0 ≤ i ∧ i < xs.length) : atI (xs.map f) i = some (f (xs.getD i.toNat a)) := by
  have hi : i.toNat < xs.length := by omega
  refine atI_nn h.1 ?_
  rw [List.getElem?_map, List.getElem?_eq_getElem hi, List.getD_eq_getElem?_getD, List.getElem?_eq_getElem hi]
  rfl
end DL
namespace DL
open PySem PySem.Spec PyProof.Rows L2
abbrev PW := List (List Key × Int)
end DL
namespace DL
open PySem PySem.Spec PyProof.Rows L2
/-- a heap without some places -/
def ers (H : Hp) (as : List Addr) : Hp := fun b => if b ∈ as then none else H b
theorem ers_in {H : Hp} {as : List Addr} {b : Addr} (h : b ∈ as) : ers H as b = none := if_pos h
theorem ers_out {H : Hp} {as : List Addr} {b : Addr} (h : b ∉ as) : ers H as b = H b := if_neg h
theorem ers_sub {H : Hp} {as : List Addr} : Same (ers H as) H := fun b u e => by
  by_cases h : b ∈ as
  · rw [ers_in h] at e; cases e
  · rwa [ers_out h] at e
abbrev Cs := List (Addr × OC)
abbrev pl (cs : Cs) : List Addr := cs.map (·.1)
section
variable {K : PySem.W.Frag} {B0 B H0 H H0' H' : Hp} {σ : L2.St} {ρ : En}
/-- what a slot owns, in another order -/
theorem J.perm (j : J K B0 B σ H0 H ρ) {i : Nat} {cs cs' : Cs} {d : D} (h : ρ[i]? = some (.ox cs d)) (p : cs.Perm cs') : J K B0 B σ H0 H (ρ.set i (.ox cs' d)) := by
  obtain ⟨ov, e1, f1, f2, f3⟩ := j.get h
  exact j.setSl (s := .ox cs' d) e1 ⟨f1, fun q hq => f2 q (p.mem_iff.mpr hq), (p.map _).nodup_iff.mp f3⟩ (j.sub h e1 fun a w => by
    have w' : a ∈ cs'.map (·.1) := w
    exact (p.map (·.1)).mem_iff.mpr w')
end
def EP (X : Cx) (ρ : En) (e : Expr) (Ψ : D → En → Prop) : Prop := ∀ B0 B σ H0 H (Q : VK), J X.K B0 B σ H0 H ρ → (∀ d ρ' v H0' H', Ψ d ρ' → Same H0 H0' → J X.K B0 B σ H0' H' ρ' → DR X.K H0' d v → Q v H') → RE X e σ H Q
def enL (N : List Str) (cs : Cs) (a : Addr) (ds : List D) : En := .ox cs (.ad a) :: (ds.map Sl.sh ++ List.replicate (N.length - (ds.length + 1)) Sl.no)
end DL
namespace DL
open PySem PySem.Spec PyProof.Rows L2
section
variable {K : PySem.W.Frag} {B0 B H : Hp} {σ : L2.St} {i : Nat} {d : D}
theorem shareAllX : ∀ {cs : Cs} {H0 : Hp} {ρ : En}, J K B0 B σ H0 H ρ → ρ[i]? = some (.ox cs d) → ∃ H0', J K B0 B σ H0' H (ρ.set i (.sh d)) ∧ Same H0 H0' ∧ (∀ p ∈ cs, DR K H0' p.2.d (.ref p.1)) ∧ (∀ b, b ∉ pl cs → H0' b = H0 b) ∧ ∀ b ∈ pl cs, H0 b = none
  | [], H0, ρ, j, h => by
    obtain ⟨ov, e1, h1, h2, h3⟩ := j.get h
    exact ⟨H0, j.setSl (s := .sh d) e1 h1 (fun a w => w.elim), Same.refl _, fun p hp => by simp at hp, fun _ _ => rfl, fun b hb => by simp at hb⟩
  | (a, c) :: cs, H0, ρ, j, h => by
    obtain ⟨ov, e1, ⟨v, h1, h1'⟩, h2, h3⟩ := j.get h
    obtain ⟨o, f1, f2, f3, f4⟩ := j.cell h (List.mem_cons_self ..)
    have nd := List.nodup_cons.mp h3
    have s0 : Same H0 (upd H0 a o) := fun b u e => upd_keep e (fun z => by subst z; rw [f2] at e; cases e)
    obtain ⟨j1, s1⟩ := j.shareAt (s' := .ox cs d) (c := c) h e1 (List.mem_cons_self ..) f1 f4 (fun b w => ⟨List.mem_cons_of_mem _ w, fun z => nd.1 (z ▸ w)⟩) fun r => ⟨⟨v, h1, DR.mono s0 _ _ h1'⟩, fun p hp => by
      obtain ⟨ob, g2, g3, g4, g5⟩ := (h2 p (List.mem_cons_of_mem _ hp)).ex
      exact ⟨ob, g2, by rw [upd_ne (fun z => nd.1 (by rw [← z]; exact List.mem_map.mpr ⟨p, hp, rfl⟩))]; exact g3, g4, g5.mono s0⟩, nd.2⟩
    obtain ⟨H1, j3, s3, r3, n3, z3⟩ := shareAllX (cs := cs) j1 (by rw [List.getElem?_set_self (List.getElem?_eq_some_iff.mp h).1])
    rw [List.set_set] at j3
    refine ⟨H1, j3, s1.trans s3, fun p hp => ?_, fun b hb => ?_, fun b hb => ?_⟩
    · rcases List.mem_cons.mp hp with rfl | hp
      · exact DR.mono s3 _ _ (OCR.dr f2 f4)
      · exact r3 p hp
    · have hb' : b ≠ a ∧ b ∉ pl cs := by simpa [pl] using hb
      rw [n3 b hb'.2, upd_ne hb'.1]
    · have hb' : b = a ∨ b ∈ pl cs := by simpa [pl] using hb
      rcases hb' with rfl | hb'
      · exact f2
      · have q := z3 b hb'
        by_cases e : b = a
        · subst e; exact f2
        · rwa [upd_ne e] at q
/-- what was shown is a slot's own again -/
theorem JH.unshow {H0 H1 H G0 G : Hp} {as : List Addr} (s : Same H0 H1) (n : ∀ b, b ∉ as → H1 b = H0 b) (z : ∀ b ∈ as, H0 b = none) (g : JH H1 H G0 G) : JH H0 H (ers G0 as) G :=
  ⟨fun b u e => by rw [ers_out fun hb => by rw [z b hb] at e; cases e]; exact g.s0 b u (s b u e), ers_sub.trans g.sh, g.sB, fun a o h nt e => by
    by_cases ha : a ∈ as
    · exact ers_in ha
    · rw [ers_out ha]; exact g.fr a o h nt (by rw [n a ha]; exact e)⟩
end
section
variable {X : Cx} {ρ : En} {e : Expr} {d d' d0 : D} {cs : Cs}
theorem td_show (i : Nat) (d' : D) {k : Bool} (hi : ρ[i]? = some (.ox cs d0)) (hd : ∀ (K : PySem.W.Frag) (H : Hp) v, (∀ p ∈ cs, DR K H p.2.d (.ref p.1)) → DR K H d0 v → DR K H d' v) (h : TD X (ρ.set i (.sh d')) e k) : TD X ρ e k := fun B0 B σ H0 H Q j kk => by
  obtain ⟨H1, j1, s1, r1, n1, z1⟩ := shareAllX j hi
  have hl : i < σ.length := by rw [j.len]; exact (List.getElem?_eq_some_iff.mp hi).1
  obtain ⟨ov, e1, v, e2, r2⟩ := j1.get (i := i) (s := .sh d0) (by rw [List.getElem?_set_self (by rw [← j.len]; exact hl)])
  have j2 := j1.setSl (i := i) (s := .sh d') e1 ⟨v, e2, hd _ _ v r1 r2⟩ fun a w => w.elim
  rw [List.set_set] at j2
  exact h B0 B σ H1 H Q j2 fun G0 G g => kk (ers G0 (pl cs)) G (g.unshow s1 n1 z1)
end
end DL
namespace DL
open PySem PySem.Spec PyProof.Rows L2
section
variable {X : Cx} {ρ : En} {pos : Pos}
open PySem.AutoSeq1 (wpAny_loadPart')
def catS (zs : List Str) : Str := zs.foldl (· ++ ·) Str.empty
def sumL (zs : List Str) : Nat := (zs.map (·.length)).sum
/-- the parts of an f-string -/
def FSd (X : Cx) (ρ : En) (es : List Expr) (zs : List Str) : Prop := ∀ B0 B σ H0 H (acc : Str) (Q : Str → Hp → Prop), J X.K B0 B σ H0 H ρ → acc.length + sumL zs ≤ sizeLine → (∀ H0' H', JH H0 H H0' H' → Q (zs.foldl (· ++ ·) acc) H') → tJs (es.map (RE X)) acc σ H Q
theorem pj_star : ∀ es : List Expr, PJ X es (es.map (RE X))
  | [] => .nil
  | _ :: es => .cons pe_star (pj_star es)
theorem app_len (a b : Str) : (a ++ b).length = a.length + b.length := Array.size_append
variable {e o : Expr} {es : List Expr} {zs : List Str} {z : Str}
theorem fs_nil : FSd X ρ [] [] := fun B0 B σ H0 H acc Q j hl k => k H0 H (JH.refl j.same)
theorem fm_s {p : Pos} (h : ED X ρ e (.str z)) (hl : z.length ≤ sizeLine) : ED X ρ (.FormattedValue e (-1) none p) (.str z) := fun B0 B σ H0 H Q j k => RE.of (pe_fmt pe_star) (h B0 B σ H0 H _ j fun v G0 G g r => by
  cases (show v = .str z from r)
  exact .inl ⟨z, rfl, hl, k _ G0 G g rfl⟩)
theorem fm_i {p : Pos} {i : Int} (h : ED X ρ e (.int i)) (hl : i.natAbs.log2 < 1920) : ED X ρ (.FormattedValue e (-1) none p) (.str (Str.ofString (toString i))) := fun B0 B σ H0 H Q j k => RE.of (pe_fmt pe_star) (h B0 B σ H0 H _ j fun v G0 G g r => by
  cases (show v = .int i from r)
  exact .inr ⟨i, rfl, hl, k _ G0 G g rfl⟩)
theorem sumL_cons (z : Str) (zs : List Str) : sumL (z :: zs) = z.length + sumL zs := by simp [sumL]
theorem fs_cons (h : ED X ρ e (.str z)) (r : FSd X ρ es zs) : FSd X ρ (e :: es) (z :: zs) := fun B0 B σ H0 H acc Q j hl k => by
  rw [sumL_cons] at hl
  refine h B0 B σ H0 H _ j fun v G0 G g rv => ?_
  cases (show v = .str z from rv)
  refine ⟨z, rfl, by rw [app_len]; omega, ?_⟩
  exact r B0 B σ G0 G (acc ++ z) Q (j.grow g) (by rw [app_len]; omega) fun L0 L g2 => k L0 L (g.trans g2)
theorem ed_fs {e2 : Expr} (h : FSd X ρ (e :: e2 :: es) zs) (hl : sumL zs ≤ sizeLine) : ED X ρ (.JoinedStr (e :: e2 :: es) pos) (.str (catS zs)) := fun B0 B σ H0 H Q j k =>
  RE.of (pe_joined (pj_star _)) (h B0 B σ H0 H Str.empty (fun out H1 => Q (.str out) H1) j (by show 0 + _ ≤ _; omega) fun G0 G g => k _ G0 G g rfl)
end
end DL
namespace DL
open PySem PySem.Spec PyProof.Rows L2
section
variable {X : Cx} {ρ : En} {pos : Pos} {e : Expr}
theorem c2_notInStr {x : Str} {ys : List Str} {d : D} (hd : SeqD d (ys.map D.str)) : C2 X .NotIn (.str x) d (.bl (!decide (x ∈ ys))) := ⟨_, op_notIn_seq, fun H0 H u v Q s r1 r2 k => by
  cases (show u = .str x from r1)
  have hf : (ys.map V.str).all flatV = true := by simp [flatV]
  have hi : inV (.str x) (ys.map V.str) = decide (x ∈ ys) := by
    unfold inV
    rw [Bool.eq_iff_iff]
    simp only [List.any_eq_true, List.mem_map, decide_eq_true_eq]
    constructor
    · rintro ⟨v, ⟨y, hy, rfl⟩, h⟩
      have : y = x := by simpa [eqV] using h
      exact this ▸ hy
    · intro h
      exact ⟨.str x, ⟨x, h, rfl⟩, by simp [eqV]⟩
  have fin : Q (.bl (if true = true then !inV (.str x) (ys.map V.str) else inV (.str x) (ys.map V.str))) H := by
    rw [hi]; exact k _ H0 H (JH.refl s) rfl
  cases hd with
  | lst =>
    obtain ⟨a, vs, rfl, h1, h2⟩ := r2
    rw [DRs.strs h2] at h1
    exact ⟨a, _, rfl, .inl (s.seq h1), rfl, hf, fin⟩
  | tup =>
    obtain ⟨a, vs, rfl, h1, h2⟩ := r2
    rw [DRs.strs h2] at h1
    exact ⟨a, _, rfl, .inr (Same.seqT s h1), rfl, hf, fin⟩⟩
theorem td_showO (i : Nat) {c : OC} {k : Bool} (hi : ρ[i]? = some (.ow c)) (h : TD X (ρ.set i (.sh c.d)) e k) : TD X ρ e k := fun B0 B σ H0 H Q j kk => by
  obtain ⟨a, j'⟩ := j.tell hi
  have hl : i < ρ.length := (List.getElem?_eq_some_iff.mp hi).1
  refine td_show (ρ := ρ.set i (.ox [(a, c)] (.ad a))) i c.d (by rw [List.getElem?_set_self hl]) (fun K H v h1 h2 => ?_) (by rw [List.set_set]; exact h) B0 B σ H0 H Q j' kk
  cases (show v = .ref a from h2)
  exact h1 (a, c) (List.mem_singleton_self _)
end
end DL
namespace DL
open PySem PySem.Spec PyProof.Rows L2
def opL4 : List Str := ["and", "or", "minus", "odd"]
def opL3 : List Str := ["grow", "shrink", "open"]
def opP (o : Fin 4) : Str := opL4.getD o.1 ""
def opS (o : Fin 3) : Str := opL3.getD o.1 ""
inductive Ex where
  | lay (n : Str)
  | two (o : Fin 4) (l r : Ex)
  | siz (o : Fin 3) (n : Int) (x : Ex)
deriving DecidableEq
def Ex.e : Ex → D
  | .lay n => .tup [.str "layer", .str n]
  | .two o l r => .tup [.str (opP o), l.e, r.e]
  | .siz o n x => .tup [.str (opS o), .int n, x.e]
def Ex.parts : Ex → List Ex
  | .lay _ => []
  | .two _ l r => [l, r]
  | .siz _ _ x => [x]
theorem parts_len (x : Ex) : x.parts.length ≤ 2 := by cases x <;> simp [Ex.parts]
def szB (op : Str) (n : Int) : Bool := decide ((if op = "open" then (1 : Int) else 0) ≤ n) && decide (n ≤ 1000)
def okE (L : List Str) : Nat → Ex → Bool
  | 0, _ => false
  | _ + 1, .lay n => decide (n ∈ L)
  | d + 1, .two _ l r => okE L d l && okE L d r
  | d + 1, .siz o n x => szB (opS o) n && okE L d x
def Ex.dep : Ex → Nat
  | .lay _ => 1
  | .two _ l r => max l.dep r.dep + 1
  | .siz _ _ x => x.dep + 1
theorem opP_in (o : Fin 4) : decide (opP o ∈ opL4) = true := by revert o; decide +kernel
theorem opS_notP (o : Fin 3) : decide (opS o ∈ opL4) = false := by revert o; decide +kernel
theorem opS_in (o : Fin 3) : decide (opS o ∈ opL3) = true := by revert o; decide +kernel
theorem opP_notS (o : Fin 4) : decide (opP o ∈ opL3) = false := by revert o; decide +kernel
theorem lay_notP : decide (("layer" : Str) ∈ opL4) = false := by decide +kernel
theorem lay_notS : decide (("layer" : Str) ∈ opL3) = false := by decide +kernel
theorem opP_lay (o : Fin 4) : decide (opP o = "layer") = false := by revert o; decide +kernel
theorem opS_lay (o : Fin 3) : decide (opS o = "layer") = false := by revert o; decide +kernel
theorem okE_no {L : List Str} {x : Ex} {d : Int} (h : d < 1) : okE L d.toNat x = false := by
  rw [show d.toNat = 0 by omega]; rfl
theorem okE_s {L : List Str} {x : Ex} {d : Int} (h : ¬ d < 1) : okE L d.toNat x = okE L ((d - 1).toNat + 1) x := by
  rw [show d.toNat = (d - 1).toNat + 1 by omega]
/-- drawn expressions -/
def sizI (m : Nat) : Fin 3 := if m = 1 then 1 else if m = 2 then 2 else 0
def qxN (q : Int) : Int := if sizI (q / 7 % 4).toNat = 2 then max 1 (q / 28 % 4) else q / 28 % 4
def qEx (f : Int → Int) (N : List Str) : Nat → Int → Int → Ex
  | 0, a, _ => .lay (N.getD (f (a % 90) / 7 % (N.length : Int)).toNat "")
  | k + 1, a, d => if d < 2 ∨ f (a % 90) % 7 = 6 then .lay (N.getD (f (a % 90) / 7 % (N.length : Int)).toNat "")
    else if f (a % 90) % 7 < 4 then .two (Fin.ofNat 4 (f (a % 90) % 7).toNat) (qEx f N k (3 * a + 1) (d - 1)) (qEx f N k (3 * a + 2) (d - 1 - f (a % 90) / 7 % 2))
    else .siz (sizI (f (a % 90) / 7 % 4).toNat) (qxN (f (a % 90))) (qEx f N k (3 * a + 3) (d - 1))
theorem qEx_lay {f : Int → Int} {N : List Str} {a d : Int} (k : Nat) (h : d < 2 ∨ f (a % 90) % 7 = 6) : qEx f N k a d = .lay (N.getD (f (a % 90) / 7 % (N.length : Int)).toNat "") := by
  cases k with
  | zero => rfl
  | succ k => unfold qEx; rw [if_pos h]
theorem qEx_two {f : Int → Int} {N : List Str} {a d : Int} {k : Nat} (h : ¬ (d < 2 ∨ f (a % 90) % 7 = 6)) (h2 : f (a % 90) % 7 < 4) : qEx f N (k + 1) a d = .two (Fin.ofNat 4 (f (a % 90) % 7).toNat) (qEx f N k (3 * a + 1) (d - 1)) (qEx f N k (3 * a + 2) (d - 1 - f (a % 90) / 7 % 2)) := by
  rw [qEx, if_neg h, if_pos h2]
theorem qEx_siz {f : Int → Int} {N : List Str} {a d : Int} {k : Nat} (h : ¬ (d < 2 ∨ f (a % 90) % 7 = 6)) (h2 : ¬ f (a % 90) % 7 < 4) : qEx f N (k + 1) a d = .siz (sizI (f (a % 90) / 7 % 4).toNat) (qxN (f (a % 90))) (qEx f N k (3 * a + 3) (d - 1)) := by
  rw [qEx, if_neg h, if_neg h2]
theorem opP_get {i : Int} (h : 0 ≤ i ∧ i < 4) : opL4.getD i.toNat "" = opP (Fin.ofNat 4 i.toNat) := by
  obtain ⟨n, rfl⟩ := Int.eq_ofNat_of_zero_le h.1
  have hn : n < 4 := by omega
  have : ∀ m : Fin 4, opL4.getD m.1 "" = opP (Fin.ofNat 4 m.1) := by decide +kernel
  exact this ⟨n, hn⟩
def opG4 : List Str := ["grow", "shrink", "open", "grow"]
theorem opS_get {i : Int} (h : 0 ≤ i ∧ i < 4) : opG4.getD i.toNat "" = opS (sizI i.toNat) := by
  obtain ⟨n, rfl⟩ := Int.eq_ofNat_of_zero_le h.1
  have hn : n < 4 := by omega
  have : ∀ m : Fin 4, opG4.getD m.1 "" = opS (sizI m.1) := by decide +kernel
  exact this ⟨n, hn⟩
theorem opS_open (o : Fin 3) : decide (opS o = "open") = decide (o = 2) := by revert o; decide +kernel
/-- what is drawn is right -/
theorem szB_q {q : Int} : szB (opS (sizI (q / 7 % 4).toNat)) (qxN q) = true := by
  have h := opS_open (sizI (q / 7 % 4).toNat)
  rw [decide_eq_decide] at h
  unfold szB qxN
  rw [Bool.and_eq_true, decide_eq_true_iff, decide_eq_true_iff]
  by_cases e : sizI (q / 7 % 4).toNat = 2
  · rw [if_pos (h.mpr e), if_pos e]; omega
  · rw [if_neg (fun z => e (h.mp z)), if_neg e]; omega
theorem qEx_ok {f : Int → Int} {N L : List Str} (hN : N ≠ []) (hL : ∀ n ∈ N, n ∈ L) : ∀ (k : Nat) (a d : Int) {m : Nat}, k + 1 ≤ m → okE L m (qEx f N k a d) = true
  | k, a, d, 0, hm => absurd hm (by omega)
  | k, a, d, m + 1, hm => by
    have hlay : ∀ i : Int, okE L (m + 1) (.lay (N.getD (i % (N.length : Int)).toNat "")) = true := fun i => by
      show decide (_ ∈ L) = true
      have hl : 0 < N.length := List.length_pos_iff.mpr hN
      have h1 := Int.emod_nonneg i (b := (N.length : Int)) (by omega)
      have h2 := Int.emod_lt_of_pos i (b := (N.length : Int)) (by omega)
      refine decide_eq_true (hL _ ?_)
      rw [List.getD_eq_getElem?_getD, List.getElem?_eq_getElem (by omega)]
      exact List.getElem_mem _
    by_cases h : d < 2 ∨ f (a % 90) % 7 = 6
    · rw [qEx_lay k h]; exact hlay _
    · cases k with
      | zero => exact hlay _
      | succ k =>
        by_cases h2 : f (a % 90) % 7 < 4
        · rw [qEx_two h h2]
          show (okE L m _ && okE L m _) = true
          rw [qEx_ok hN hL k _ _ (by omega), qEx_ok hN hL k _ _ (by omega)]; rfl
        · rw [qEx_siz h h2]
          show (szB _ _ && okE L m _) = true
          rw [szB_q, qEx_ok hN hL k _ _ (by omega)]; rfl
theorem ex_md : ∀ (x : Ex) {m : Nat}, x.dep ≤ m → MD m x.e
  | .lay n, 0, h => absurd h (by unfold Ex.dep; omega)
  | .lay n, m + 1, h => md_tup (by simp) (md_cons md_str (md_cons md_str md_nil))
  | .two o l r, 0, h => absurd h (by unfold Ex.dep; omega)
  | .two o l r, m + 1, h => md_tup (by simp) (md_cons md_str (md_cons (ex_md l (by unfold Ex.dep at h; omega)) (md_cons (ex_md r (by unfold Ex.dep at h; omega)) md_nil)))
  | .siz o n x, 0, h => absurd h (by unfold Ex.dep; omega)
  | .siz o n x, m + 1, h => md_tup (by simp) (md_cons md_str (md_cons md_int (md_cons (ex_md x (by unfold Ex.dep at h; omega)) md_nil)))
theorem qEx_dep {f : Int → Int} {N : List Str} : ∀ (k : Nat) (a d : Int), (qEx f N k a d).dep ≤ k + 1
  | 0, a, d => Nat.le_refl _
  | k + 1, a, d => by
    by_cases h : d < 2 ∨ f (a % 90) % 7 = 6
    · rw [qEx_lay _ h]; show 1 ≤ _; omega
    · by_cases h2 : f (a % 90) % 7 < 4
      · rw [qEx_two h h2]
        have h3 := qEx_dep (f := f) (N := N) k (3 * a + 1) (d - 1)
        have h4 := qEx_dep (f := f) (N := N) k (3 * a + 2) (d - 1 - f (a % 90) / 7 % 2)
        show max _ _ + 1 ≤ _; omega
      · rw [qEx_siz h h2]
        have h3 := qEx_dep (f := f) (N := N) k (3 * a + 3) (d - 1)
        show _ + 1 ≤ _; omega
/-- a rule over layers with these names -/
def okRL (L : List Str) (k : Str) (ls : List Str) (ns : List Int) : Bool := (ls.all fun l => decide (l ∈ L)) && (decide (((ddK (ls.map (fun l => (Sum.inr l : Key)))).length : Int) = (ls.length : Int)) && (ns.all fun n => decide (least k ≤ n) && decide (n ≤ 1000)))
def wds9 : List Str := ["and", "or", "minus", "odd", "grow", "shrink", "open", "layer", "rule"]
def newB (L : List Str) (n : Str) : Bool := nameB n && (!decide (n ∈ wds9) && !decide (n ∈ L))
end DL
namespace DL
open PySem PySem.Spec PyProof.Rows L2
theorem pre_all9 : ∀ a : Fin 26, ∀ b : Fin 6, cutS ((⟨#[ltr.cps.toList.getD a.val 0]⟩ : Str) ++ tls.getD b.val "") none (some 8) = cutS ((⟨#[ltr.cps.toList.getD a.val 0]⟩ : Str) ++ tls.getD b.val "") none (some 7) := by decide +kernel
theorem cutE (d : Int) : cutS (nmOf d) none (some 8) = nmPre d := by
  have h1 : (d % 26).toNat < 26 := by omega
  have h2 : (d / 26 % 6).toNat < 6 := by omega
  exact pre_all9 ⟨_, h1⟩ ⟨_, h2⟩
def dStr (d : Int) (n : Nat) : Str := (nmPre d ++ ("d" : Str)) ++ (Str.ofString (toString (n : Int)))
theorem ld1 : ("d" : Str).length = 1 := by decide +kernel
theorem e1_len (d : Int) : (cutS (nmOf d) none (some 8)).length + (Str.ofString "d").length ≤ sizeLine := by
  have := pre_len d
  rw [cutE]
  show (nmPre d).length + ("d" : Str).length ≤ sizeLine
  rw [ld1, sizeLine_eq]; omega
theorem e2_len (d : Int) {n : Nat} (h : n < 64) : (cutS (nmOf d) none (some 8) ++ Str.ofString "d").length + (Str.ofString (toString (n : Int))).length ≤ sizeLine := by
  have := pre_len d
  have h2 := dig_ok h
  rw [cutE]
  show (nmPre d ++ ("d" : Str)).length + _ ≤ sizeLine
  rw [len_app, ld1, sizeLine_eq]; omega
theorem dStr_ok (d : Int) {n : Nat} (h : n < 64) : nameB (dStr d n) = true := by
  have h1 := pre_ok d
  have h2 := dig_ok h
  unfold preOk at h1
  simp only [Bool.and_eq_true, decide_eq_true_eq] at h1
  obtain ⟨⟨l1, l2⟩, f, a⟩ := h1
  have ak : ("d" : Str).cps.toList.all chB = true := by decide +kernel
  unfold nameB dStr
  rw [len_app, len_app, ld1, all_app, all_app, a, ak, cps_app, cps_app]
  have hne : (nmPre d).cps.toList ≠ [] := fun e => by
    have : (nmPre d).cps.toList.length = 0 := by rw [e]; rfl
    rw [Array.length_toList] at this
    have l1' : 1 ≤ (nmPre d).cps.size := l1
    omega
  have hf : ((nmPre d).cps.toList ++ ("d" : Str).cps.toList ++ (Str.ofString (toString (n : Int))).cps.toList).getD 0 0 = (nmPre d).cps.toList.getD 0 0 := by
    cases q : (nmPre d).cps.toList with
    | nil => exact absurd q hne
    | cons c r => rfl
  rw [hf, f]
  have hd : (Str.ofString (toString (n : Int))).cps.toList.all chB = true := List.all_eq_true.mpr fun c hc => chB_of (List.all_eq_true.mp h2.2 c hc)
  rw [hd]
  simp only [Bool.and_true, Bool.and_eq_true, decide_eq_true_eq]
  omega
theorem dig_no {m : Nat} (hm : m < 64) : ∀ c ∈ (Str.ofString (toString (m : Int))).cps.toList, c ≠ 100 := fun c hc => by
  have := List.all_eq_true.mp (dig_ok hm).2 c hc
  unfold digB at this
  simp only [Bool.and_eq_true, decide_eq_true_eq] at this
  omega
theorem dStr_inj {d d' : Int} {n n' : Nat} (h : n < 64) (h' : n' < 64) (e : dStr d n = dStr d' n') : n = n' := by
  have e1 := congrArg (fun z : Str => z.cps.toList) e
  unfold dStr at e1
  simp only [cps_app] at e1
  have ek : ("d" : Str).cps.toList = [100] := by decide +kernel
  rw [ek, List.append_assoc, List.append_assoc] at e1
  have e2 := tail_eq (dig_no h) (dig_no h') e1
  have := dig_inj ⟨n, h⟩ ⟨n', h'⟩ e2
  exact congrArg Fin.val this
/-- a name ends with a figure -/
def endD (x : Str) : Bool := match x.cps.toList.getLast? with
  | some c => digB c
  | none => false
theorem dStr_end (d : Int) {n : Nat} (h : n < 64) : endD (dStr d n) = true := by
  have h2 := dig_ok h
  unfold endD dStr
  rw [cps_app]
  have hne : (Str.ofString (toString (n : Int))).cps.toList ≠ [] := fun e => by
    have : (Str.ofString (toString (n : Int))).cps.toList.length = 0 := by rw [e]; rfl
    rw [Array.length_toList] at this
    have l1' : 1 ≤ (Str.ofString (toString (n : Int))).cps.size := h2.1.1
    omega
  rw [List.getLast?_append, List.getLast?_eq_some_getLast hne]
  exact List.all_eq_true.mp h2.2 _ (List.getLast_mem hne)
theorem end_no {d : Int} {n : Nat} (h : n < 64) {x : Str} (hx : endD x = false) : dStr d n ≠ x := fun e => by
  have := dStr_end d h
  rw [e, hx] at this
  cases this
theorem lays_end : ∀ x ∈ lays, endD x = false := by decide +kernel
theorem wds_end : ∀ x ∈ wds9, endD x = false := by decide +kernel
abbrev Df := Str × Ex
def Df.e (f : Df) : D := .tup [.str f.1, f.2.e]
def qNm9 (c : Int) (k : Nat) : Str := dStr (dr c 90 (k : Int)) k
def qNs (c : Int) (k : Nat) : List Str := lays ++ (List.range k).map (qNm9 c)
def qDf (c dp : Int) (k : Nat) : Df := (qNm9 c k, qEx (dr c 90) (qNs c k) 3 (7 * (k : Int) + dr c 90 88 % 50) (1 + (dr c 90 (k : Int) + dr c 90 87) % dp))
def qDfs (c dp : Int) (n : Nat) : List Df := (List.range n).map (qDf c dp)
theorem qNs_succ (c : Int) (k : Nat) : qNs c (k + 1) = qNs c k ++ [qNm9 c k] := by unfold qNs; rw [List.range_succ, List.map_append, ← List.append_assoc]; rfl
theorem qNs_len (c : Int) (k : Nat) : (qNs c k).length = 7 + k := by unfold qNs; rw [List.length_append, List.length_map, List.length_range]; rfl
theorem qDfs_succ (c dp : Int) (k : Nat) : qDfs c dp (k + 1) = qDfs c dp k ++ [qDf c dp k] := by unfold qDfs; rw [List.range_succ, List.map_append]; rfl
theorem qDfs_len (c dp : Int) (k : Nat) : (qDfs c dp k).length = k := by unfold qDfs; rw [List.length_map, List.length_range]
theorem qDfs_nm (c dp : Int) (n : Nat) : (qDfs c dp n).map (·.1) = (List.range n).map (qNm9 c) := by unfold qDfs; rw [List.map_map]; rfl
abbrev RuX := Str × List Str × List Int
def ruX (r : RuX) : D := .tup (rDs r.1 r.2.1 r.2.2)
def kinD : List Str := ["width", "space", "apart", "cover", "area", "size", "never"]
def qKi (q : Int) : Str := kinD.getD (q % 7).toNat ""
def nAt (N : List Str) (i : Int) : Str := N.getD (i % (N.length : Int)).toNat ""
def qO (N : List Str) (q m : Int) : Int := q / 7 % (N.length : Int) + 1 + m % ((N.length : Int) - 1)
def qRu (N : List Str) (q m : Int) : RuX :=
  if qKi q = "area" then (qKi q, [nAt N (q / 7)], [1 + m / 64 % 40])
  else if qKi q = "size" then (qKi q, [nAt N (q / 7)], [1 + m / 64 % 3, 1 + m / 192 % 4])
  else if qKi q = "never" then (qKi q, [nAt N (q / 7), nAt N (qO N q m)], [])
  else if qKi q = "apart" ∨ qKi q = "cover" then (qKi q, [nAt N (q / 7), nAt N (qO N q m)], [1 + m / 64 % 3 - 1])
  else (qKi q, [nAt N (q / 7)], [1 + m / 64 % 3])
theorem nAt_mem {N : List Str} (h : 0 < N.length) (i : Int) : nAt N i ∈ N := by
  have h1 := Int.emod_nonneg i (b := (N.length : Int)) (by omega)
  have h2 := Int.emod_lt_of_pos i (b := (N.length : Int)) (by omega)
  unfold nAt
  rw [List.getD_eq_getElem?_getD, List.getElem?_eq_getElem (by omega)]
  exact List.getElem_mem _
theorem ne_arith {a c n : Int} (a1 : 0 ≤ a) (a2 : a < n) (c1 : 0 ≤ c) (c2 : c < n - 1) (h : (a + 1 + c) % n = a) : False := by
  rcases Int.lt_or_le (a + 1 + c) n with w | w
  · rw [Int.emod_eq_of_lt (by omega) w] at h; omega
  · have : (a + 1 + c) % n = a + 1 + c - n := by
      rw [← Int.sub_emod_right, Int.emod_eq_of_lt (by omega) (by omega)]
    omega
theorem nAt_ne {N : List Str} (nd : N.Nodup) (h : 2 ≤ N.length) (q m : Int) : nAt N (q / 7) ≠ nAt N (qO N q m) := fun e => by
  have a1 := Int.emod_nonneg (q / 7) (b := (N.length : Int)) (by omega)
  have a2 := Int.emod_lt_of_pos (q / 7) (b := (N.length : Int)) (by omega)
  have b1 := Int.emod_nonneg (qO N q m) (b := (N.length : Int)) (by omega)
  have b2 := Int.emod_lt_of_pos (qO N q m) (b := (N.length : Int)) (by omega)
  have c1 := Int.emod_nonneg m (b := (N.length : Int) - 1) (by omega)
  have c2 := Int.emod_lt_of_pos m (b := (N.length : Int) - 1) (by omega)
  unfold nAt at e
  rw [List.getD_eq_getElem?_getD, List.getElem?_eq_getElem (by omega), List.getD_eq_getElem?_getD, List.getElem?_eq_getElem (by omega)] at e
  have e1 := (List.getElem_inj (h₀ := by omega) (h₁ := by omega) nd).mp e
  have hq : qO N q m = q / 7 % (N.length : Int) + 1 + m % ((N.length : Int) - 1) := rfl
  exact ne_arith a1 a2 c1 c2 (by rw [← hq]; omega)
structure RuG (L : List Str) (r : RuX) : Prop where
  f : Form r.1 r.2.1.length r.2.2.length
  ok : okRL L r.1 r.2.1 r.2.2 = true
theorem okRL_1 {L : List Str} {k l : Str} {n : Int} (hl : l ∈ L) (h1 : 1 ≤ n) (h2 : n ≤ 1000) : okRL L k [l] [n] = true := by
  unfold okRL
  have h3 : least k ≤ n := by unfold least; split <;> omega
  rw [nd_one]; simp [hl, h3, h2]
theorem okRL_s {L : List Str} {l : Str} {n m : Int} (hl : l ∈ L) (h1 : 1 ≤ n ∧ n ≤ 1000) (h2 : 1 ≤ m ∧ m ≤ 1000) : okRL L "size" [l] [n, m] = true := by
  unfold okRL
  rw [nd_one, show least "size" = 1 by decide +kernel]; simp [hl, h1, h2]
theorem okRL_2 {L : List Str} {k a b : Str} {n : Int} (ha : a ∈ L) (hb : b ∈ L) (ne : a ≠ b) (hk : least k ≤ n) (h2 : n ≤ 1000) : okRL L k [a, b] [n] = true := by
  unfold okRL
  rw [nd_two]; simp [ha, hb, ne, hk, h2]
theorem okRL_n {L : List Str} {k a b : Str} (ha : a ∈ L) (hb : b ∈ L) (ne : a ≠ b) : okRL L k [a, b] [] = true := by
  unfold okRL
  rw [nd_two]; simp [ha, hb, ne]
theorem qKi_mem (q : Int) : qKi q ∈ kinD := by
  unfold qKi
  have h1 := Int.emod_nonneg q (b := 7) (by decide)
  have h2 := Int.emod_lt_of_pos q (b := 7) (by decide)
  rw [List.getD_eq_getElem?_getD, List.getElem?_eq_getElem (show (q % 7).toNat < kinD.length by show _ < 7; omega)]
  exact List.getElem_mem _
theorem qRu_ok {N L : List Str} (nd : N.Nodup) (h : 2 ≤ N.length) (hL : ∀ n ∈ N, n ∈ L) (q m : Int) : RuG L (qRu N q m) := by
  have hk := qKi_mem q
  have ha := hL _ (nAt_mem (by omega : 0 < N.length) (q / 7))
  have hb := hL _ (nAt_mem (by omega : 0 < N.length) (qO N q m))
  have ne := nAt_ne nd h q m
  unfold qRu
  generalize qKi q = k at *
  generalize nAt N (q / 7) = a at *
  generalize nAt N (qO N q m) = b at *
  by_cases h1 : k = "area"
  · rw [if_pos h1]; subst h1
    exact ⟨.area, okRL_1 ha (by omega) (by omega)⟩
  rw [if_neg h1]
  by_cases h2 : k = "size"
  · rw [if_pos h2]; subst h2
    exact ⟨.size, okRL_s ha (by omega) (by omega)⟩
  rw [if_neg h2]
  by_cases h3 : k = "never"
  · rw [if_pos h3]; subst h3
    exact ⟨.never, okRL_n ha hb ne⟩
  rw [if_neg h3]
  by_cases h4 : k = "apart" ∨ k = "cover"
  · rw [if_pos h4]
    have hl : least k = 0 := by rcases h4 with rfl | rfl <;> decide +kernel
    refine ⟨?_, okRL_2 ha hb ne (by rw [hl]; omega) (by omega)⟩
    rcases h4 with rfl | rfl
    · exact .apart
    · exact .cover
  rw [if_neg h4]
  refine ⟨?_, okRL_1 ha (by omega) (by omega)⟩
  simp only [kinD, List.mem_cons, List.not_mem_nil, or_false] at hk
  rcases hk with rfl | rfl | rfl | rfl | rfl | rfl | rfl
  · exact .width
  · exact .space
  · exact absurd (.inl rfl) h4
  · exact absurd (.inr rfl) h4
  · exact absurd rfl h1
  · exact absurd rfl h2
  · exact absurd rfl h3
def qRus (N : List Str) (c most : Int) : List RuX := (List.range (dr c (2 * most + 1) (2 * most) % (most + 1)).toNat).map fun (k : Nat) => qRu N (dr c (2 * most + 1) (2 * (k : Int))) (dr c (2 * most + 1) (2 * (k : Int) + 1))
def lyN (F : List Df) : List Str := lays ++ F.map (·.1)
theorem lyN_snoc (F : List Df) (f : Df) : lyN (F ++ [f]) = lyN F ++ [f.1] := by unfold lyN; rw [List.map_append, ← List.append_assoc]; rfl
theorem lyN_len (F : List Df) : (lyN F).length = 7 + F.length := by unfold lyN; rw [List.length_append, List.length_map]; rfl
theorem lyN_take {F : List Df} {i : Nat} {f : Df} (h : F[i]? = some f) : lyN (F.take (i + 1)) = lyN (F.take i) ++ [f.1] := by
  rw [List.take_add_one, h]; exact lyN_snoc _ _
structure DfG (L : List Str) (f : Df) : Prop where
  n : newB L f.1 = true
  e : okE L 12 f.2 = true
def DfAll (F : List Df) (n : Nat) : Prop := ∀ i f, i < n → F[i]? = some f → DfG (lyN (F.take i)) f
structure DkS (F : List Df) (Q : List RuX) : Prop where
  fl : F.length ≤ 60
  ql : Q.length ≤ 60
  nl : ∀ f ∈ F, f.1.length ≤ 1000
  fm : ∀ r ∈ Q, Form r.1 r.2.1.length r.2.2.length
structure DkOk (F : List Df) (Q : List RuX) : Prop where
  s : DkS F Q
  dl : F.length ≤ 40
  rl : Q.length ≤ 40
  df : DfAll F F.length
  ru : ∀ r ∈ Q, okRL (lyN F) r.1 r.2.1 r.2.2 = true
inductive DkBad (F : List Df) (Q : List RuX) : Prop
  | dl (h : 40 < F.length)
  | rl (h : F.length ≤ 40) (h2 : 40 < Q.length)
  | df (h : F.length ≤ 40) (h2 : Q.length ≤ 40) (n : Nat) (f : Df) (hn : F[n]? = some f) (ok : DfAll F n) (bad : newB (lyN (F.take n)) f.1 = false ∨ okE (lyN (F.take n)) 12 f.2 = false)
  | ru (h : F.length ≤ 40) (h2 : Q.length ≤ 40) (ok : DfAll F F.length) (r : RuX) (hr : r ∈ Q) (bad : okRL (lyN F) r.1 r.2.1 r.2.2 = false)
def tow : Nat → Ex
  | 0 => .lay "metal"
  | k + 1 => if k % 3 = 0 then .two 0 (.lay "poly") (tow k) else if k % 3 = 1 then .siz 0 1000 (tow k) else .two 1 (tow k) (.lay "well")
def wr3 (d : Int) : Int := ([-1 - d, 1001, 1001 + d] : List Int).getD (d % 3).toNat 0
def st4 (d : Int) (nm : Str) : Str := (["steel", nm, "later", ""] : List Str).getD (d % 4).toNat ""
def bxs (d : Int) (nm : Str) : List Ex :=
  [.lay (st4 d nm), .siz 0 (wr3 d) (.lay "poly"), .siz 1 (wr3 d) (.lay "poly"), .siz 2 (wr3 d) (.lay "poly")] ++ [.siz 2 0 (.lay "poly"), tow 12, .two 0 (.lay "poly") (.siz 2 0 (.lay "poly")), .two 3 (.lay "later") (.lay "poly")]
theorem tow_dep : ∀ k, (tow k).dep = k + 1
  | 0 => rfl
  | k + 1 => by
    have h := tow_dep k
    rw [tow]
    split
    · show max 1 (tow k).dep + 1 = _; omega
    · split
      · show (tow k).dep + 1 = _; omega
      · show max (tow k).dep 1 + 1 = _; omega
theorem okE_dep {L : List Str} : ∀ {m : Nat} {x : Ex}, okE L m x = true → x.dep ≤ m
  | 0, _, h => by cases h
  | m + 1, .lay _, _ => by show 1 ≤ _; omega
  | m + 1, .two _ l r, h => by
    have h : (okE L m l && okE L m r) = true := h
    rw [Bool.and_eq_true] at h
    have h1 := okE_dep h.1
    have h2 := okE_dep h.2
    show max _ _ + 1 ≤ _; omega
  | m + 1, .siz _ _ x, h => by
    have h : (szB _ _ && okE L m x) = true := h
    rw [Bool.and_eq_true] at h
    have h2 := okE_dep h.2
    show _ + 1 ≤ _; omega
theorem okE_two {L : List Str} {m : Nat} {o : Fin 4} {l r : Ex} : okE L (m + 1) (.two o l r) = (okE L m l && okE L m r) := rfl
theorem okE_siz {L : List Str} {m : Nat} {o : Fin 3} {n : Int} {x : Ex} : okE L (m + 1) (.siz o n x) = (szB (opS o) n && okE L m x) := rfl
theorem okE_lay {L : List Str} {m : Nat} {n : Str} : okE L (m + 1) (.lay n) = decide (n ∈ L) := rfl
theorem tow_ok {L : List Str} (h1 : ("metal" : Str) ∈ L) (h2 : ("poly" : Str) ∈ L) (h3 : ("well" : Str) ∈ L) : ∀ (k : Nat) {m : Nat}, k + 1 ≤ m → okE L m (tow k) = true
  | k, 0, h => absurd h (by omega)
  | 0, m + 1, _ => decide_eq_true h1
  | k + 1, m + 1, h => by
    have ih := tow_ok h1 h2 h3 k (m := m) (by omega)
    have lay : ∀ n : Str, n ∈ L → okE L m (.lay n) = true := fun n hn => by
      obtain ⟨m', rfl⟩ : ∃ m', m = m' + 1 := ⟨m - 1, by omega⟩
      exact decide_eq_true hn
    rw [tow]
    split
    · rw [okE_two, ih, lay _ h2]; rfl
    · split
      · rw [okE_siz, ih, show szB (opS 0) 1000 = true by decide +kernel]; rfl
      · rw [okE_two, ih, lay _ h3]; rfl
theorem wr3_no (o : Fin 3) {d : Int} (h : 0 ≤ d) : szB (opS o) (wr3 d) = false := by
  unfold szB wr3
  rw [Bool.and_eq_false_iff, decide_eq_false_iff_not, decide_eq_false_iff_not]
  have h3 : d % 3 = 0 ∨ d % 3 = 1 ∨ d % 3 = 2 := by omega
  rcases h3 with e | e | e <;> rw [e]
  · refine .inl ?_
    show ¬ (_ ≤ -1 - d)
    split <;> omega
  · refine .inr ?_
    show ¬ (1001 ≤ (1000 : Int)); decide
  · by_cases z : d = 0
    · subst z; cases e
    · refine .inr ?_
      show ¬ (1001 + d ≤ (1000 : Int)); omega
theorem bxs_bad {L : List Str} {d : Int} {nm : Str} (h : 0 ≤ d) (h1 : ("steel" : Str) ∉ L) (h2 : nm ∉ L) (h3 : ("later" : Str) ∉ L) (h4 : ("" : Str) ∉ L) : ∀ x ∈ bxs d nm, okE L 12 x = false := fun x hx => by
  unfold bxs at hx
  simp only [List.cons_append, List.nil_append, List.mem_cons, List.not_mem_nil, or_false] at hx
  rcases hx with rfl | rfl | rfl | rfl | rfl | rfl | rfl | rfl
  · rw [okE_lay]
    refine decide_eq_false ?_
    unfold st4
    have h9 : d % 4 = 0 ∨ d % 4 = 1 ∨ d % 4 = 2 ∨ d % 4 = 3 := by omega
    rcases h9 with e | e | e | e <;> rw [e]
    · exact h1
    · exact h2
    · exact h3
    · exact h4
  · rw [okE_siz, wr3_no _ h]; rfl
  · rw [okE_siz, wr3_no _ h]; rfl
  · rw [okE_siz, wr3_no _ h]; rfl
  · rw [okE_siz, show szB (opS 2) 0 = false by decide +kernel]; rfl
  · cases e : okE L 12 (tow 12) with
    | false => rfl
    | true => have := okE_dep e; rw [tow_dep] at this; omega
  · rw [okE_two, okE_siz, show szB (opS 2) 0 = false by decide +kernel, Bool.false_and, Bool.and_false]
  · rw [okE_two, okE_lay, decide_eq_false h3]; rfl
theorem opP_inj {o o' : Fin 4} (h : opP o = opP o') : o = o' := by
  have : ∀ a b : Fin 4, opP a = opP b → a = b := by decide +kernel
  exact this _ _ h
theorem opS_inj {o o' : Fin 3} (h : opS o = opS o') : o = o' := by
  have : ∀ a b : Fin 3, opS a = opS b → a = b := by decide +kernel
  exact this _ _ h
theorem e_noint : ∀ {x : Ex} {i : Int}, x.e ≠ .int i
  | .lay _, _, h => by cases h
  | .two _ _ _, _, h => by cases h
  | .siz _ _ _, _, h => by cases h
theorem Ex.inj : ∀ {x y : Ex}, x.e = y.e → x = y
  | .lay n, .lay m, h => by unfold Ex.e at h; simp only [D.tup.injEq, List.cons.injEq, D.str.injEq] at h; rw [h.2.1]
  | .lay n, .two o l r, h => by unfold Ex.e at h; simp at h
  | .lay n, .siz o m x, h => by unfold Ex.e at h; simp at h
  | .two o l r, .lay n, h => by unfold Ex.e at h; simp at h
  | .two o l r, .two o' l' r', h => by
    unfold Ex.e at h
    simp only [D.tup.injEq, List.cons.injEq, D.str.injEq] at h
    rw [opP_inj h.1, Ex.inj h.2.1, Ex.inj h.2.2.1]
  | .two o l r, .siz o' m x, h => by
    unfold Ex.e at h
    simp only [D.tup.injEq, List.cons.injEq, D.str.injEq] at h
    exact absurd h.2.1 e_noint
  | .siz o m x, .lay n, h => by unfold Ex.e at h; simp at h
  | .siz o m x, .two o' l r, h => by
    unfold Ex.e at h
    simp only [D.tup.injEq, List.cons.injEq, D.str.injEq] at h
    exact absurd h.2.1.symm e_noint
  | .siz o m x, .siz o' m' x', h => by
    unfold Ex.e at h
    simp only [D.tup.injEq, List.cons.injEq, D.str.injEq, D.int.injEq] at h
    rw [opS_inj h.1, h.2.1, Ex.inj h.2.2.1]
def Ex.Sm : Ex → Prop
  | .lay n => smallStr n
  | .two _ l r => l.Sm ∧ r.Sm
  | .siz _ _ x => x.Sm
theorem opP_sm (o : Fin 4) : smallStr (opP o) := by
  have : ∀ a : Fin 4, PyData.strOk (opP a) = true := by decide +kernel
  exact this o
theorem opS_sm (o : Fin 3) : smallStr (opS o) := by
  have : ∀ a : Fin 3, PyData.strOk (opS a) = true := by decide +kernel
  exact this o
theorem lay_sm : smallStr ("layer" : Str) := by
  exact (by decide +kernel : PyData.strOk ("layer" : Str) = true)
theorem ex_cm : ∀ (x : Ex) {m : Nat}, x.Sm → x.dep ≤ m → Cm m x.e
  | .lay n, 0, _, h => absurd h (by unfold Ex.dep; omega)
  | .lay n, m + 1, s, _ => .tup fun d hd => by
    simp only [List.mem_cons, List.not_mem_nil, or_false] at hd
    rcases hd with rfl | rfl
    · exact .str lay_sm
    · exact .str s
  | .two o l r, 0, _, h => absurd h (by unfold Ex.dep; omega)
  | .two o l r, m + 1, s, h => .tup fun d hd => by
    have h : max l.dep r.dep + 1 ≤ m + 1 := h
    simp only [List.mem_cons, List.not_mem_nil, or_false] at hd
    rcases hd with rfl | rfl | rfl
    · exact .str (opP_sm o)
    · exact ex_cm l s.1 (by omega)
    · exact ex_cm r s.2 (by omega)
  | .siz o n x, 0, _, h => absurd h (by unfold Ex.dep; omega)
  | .siz o n x, m + 1, s, h => .tup fun d hd => by
    have h : x.dep + 1 ≤ m + 1 := h
    simp only [List.mem_cons, List.not_mem_nil, or_false] at hd
    rcases hd with rfl | rfl | rfl
    · exact .str (opS_sm o)
    · exact .int
    · exact ex_cm x s (by omega)
def inP (xs : List Ex) : List Ex := xs.foldl (fun ps x => ps ++ x.parts.filter fun y => !decide (y ∈ ps)) []
theorem inP_snoc {xs : List Ex} {i : Nat} {x : Ex} (h : xs[i]? = some x) : inP (xs.take (i + 1)) = inP (xs.take i) ++ x.parts.filter fun y => !decide (y ∈ inP (xs.take i)) := by
  unfold inP; rw [List.take_add_one, h]; simp [List.foldl_append]
structure LvOk (n : Nat) (xs : List Ex) : Prop where
  l : xs.length ≤ 4
  x : ∀ x ∈ xs, x.dep ≤ n ∧ x.Sm
theorem parts_ok {x y : Ex} (h : y ∈ x.parts) : y.dep < x.dep ∧ (x.Sm → y.Sm) := by
  cases x with
  | lay n => cases h
  | two o l r =>
    simp only [Ex.parts, List.mem_cons, List.not_mem_nil, or_false] at h
    rcases h with rfl | rfl
    · exact ⟨by show _ < max _ _ + 1; omega, fun s => s.1⟩
    · exact ⟨by show _ < max _ _ + 1; omega, fun s => s.2⟩
  | siz o n z =>
    simp only [Ex.parts, List.mem_cons, List.not_mem_nil, or_false] at h
    subst h
    exact ⟨by show _ < _ + 1; omega, fun s => s⟩
theorem inP_mem {xs : List Ex} {y : Ex} : ∀ n, y ∈ inP (xs.take n) → ∃ x ∈ xs, y ∈ x.parts
  | 0, h => by cases h
  | n + 1, h => by
    cases e : xs[n]? with
    | none =>
      rw [List.take_add_one, e] at h
      simp only [Option.toList, List.append_nil] at h
      exact inP_mem n h
    | some x =>
      rw [inP_snoc e, List.mem_append] at h
      rcases h with h | h
      · exact inP_mem n h
      · exact ⟨x, List.mem_of_getElem? e, (List.mem_filter.mp h).1⟩
theorem inP_len (xs : List Ex) : ∀ n, (inP (xs.take n)).length ≤ 2 * n
  | 0 => Nat.le_refl _
  | n + 1 => by
    have ih := inP_len xs n
    cases e : xs[n]? with
    | none => rw [List.take_add_one, e]; simp only [Option.toList, List.append_nil]; omega
    | some x =>
      rw [inP_snoc e, List.length_append]
      have h1 := parts_len x
      have h2 := List.length_filter_le (fun y => !decide (y ∈ inP (xs.take n))) x.parts
      omega
def lvT (k : Nat) : Nat → List Ex
  | 0 => [tow k]
  | n + 1 => inP (lvT k n)
theorem lvT_end : ∀ k : Fin 12, (∀ n : Fin 13, (lvT k.1 n.1 = [] ↔ k.1 < n.1)) ∧ ∀ n : Fin 13, (lvT k.1 n.1).length ≤ 4 := by decide +kernel
theorem tow_sm : ∀ k, (tow k).Sm
  | 0 => by
    show smallStr _
    exact (by decide +kernel : PyData.strOk ("metal" : Str) = true)
  | k + 1 => by
    have h := tow_sm k
    have h1 : smallStr ("poly" : Str) := by
      exact (by decide +kernel : PyData.strOk ("poly" : Str) = true)
    have h2 : smallStr ("well" : Str) := by
      exact (by decide +kernel : PyData.strOk ("well" : Str) = true)
    rw [tow]
    split
    · exact ⟨h1, h⟩
    · split
      · exact h
      · exact ⟨h, h2⟩
theorem lvT_x {k : Nat} (hk : k < 12) : ∀ n, ∀ x ∈ lvT k n, x.dep ≤ 12 ∧ x.Sm
  | 0, x, h => by
    cases List.mem_singleton.mp h
    rw [tow_dep]; exact ⟨by omega, tow_sm k⟩
  | n + 1, x, h => by
    obtain ⟨y, hy, hp⟩ := inP_mem (xs := lvT k n) (lvT k n).length (by rw [List.take_length]; exact h)
    obtain ⟨h1, h2⟩ := lvT_x hk n y hy
    obtain ⟨h3, h4⟩ := parts_ok hp
    exact ⟨by omega, h4 h2⟩
theorem lvT_ok {k n : Nat} (hk : k < 12) (hn : n < 13) : LvOk 12 (lvT k n) := ⟨(lvT_end ⟨k, hk⟩).2 ⟨n, hn⟩, lvT_x hk n⟩
def wg3 (d : Int) : Int := ([0, -1 - d, 1001] : List Int).getD (d % 3).toNat 0
def lw3 (d : Int) : Int := ([-1, -1 - d, 1001] : List Int).getD (d % 3).toNat 0
def brs (d : Int) : List RuX :=
  ([("width", ["steel"], [1]), ("width", ["poly"], [wg3 d]), ("space", ["via"], [wg3 d]), ("area", ["top"], [wg3 d]), ("size", ["top"], [1, wg3 d])] : List RuX) ++ ([("size", ["top"], [wg3 d, 1]), ("apart", ["top", "via"], [lw3 d]), ("cover", ["top", "via"], [lw3 d]), ("never", ["top", "steel"], [])] : List RuX) ++ ([("apart", ["top", "top"], [1]), ("cover", ["via", "via"], [0]), ("never", ["poly", "poly"], []), ("cover", ["later", "via"], [0])] : List RuX)
theorem wg3_no {d : Int} (h : 0 ≤ d) : ¬ (1 ≤ wg3 d ∧ wg3 d ≤ 1000) := by
  unfold wg3
  have h3 : d % 3 = 0 ∨ d % 3 = 1 ∨ d % 3 = 2 := by omega
  rcases h3 with e | e | e <;> rw [e]
  · show ¬ (1 ≤ (0 : Int) ∧ _); omega
  · show ¬ (1 ≤ -1 - d ∧ _); omega
  · show ¬ (_ ∧ (1001 : Int) ≤ 1000); omega
theorem lw3_no {d : Int} (h : 0 ≤ d) : ¬ (0 ≤ lw3 d ∧ lw3 d ≤ 1000) := by
  unfold lw3
  have h3 : d % 3 = 0 ∨ d % 3 = 1 ∨ d % 3 = 2 := by omega
  rcases h3 with e | e | e <;> rw [e]
  · show ¬ (0 ≤ (-1 : Int) ∧ _); omega
  · show ¬ (0 ≤ -1 - d ∧ _); omega
  · show ¬ (_ ∧ (1001 : Int) ≤ 1000); omega
theorem okRL_l {L : List Str} {k : Str} {ls : List Str} {ns : List Int} {l : Str} (hl : l ∈ ls) (h : l ∉ L) : okRL L k ls ns = false := by
  unfold okRL
  rw [show (ls.all fun l => decide (l ∈ L)) = false from by rw [List.all_eq_false]; exact ⟨l, hl, by simpa using h⟩, Bool.false_and]
theorem okRL_d {L : List Str} {k a : Str} {ns : List Int} : okRL L k [a, a] ns = false := by
  unfold okRL
  rw [nd_two]; simp
theorem okRL_w {L : List Str} {k : Str} {ls : List Str} {ns : List Int} {n : Int} (hn : n ∈ ns) (h : ¬ (least k ≤ n ∧ n ≤ 1000)) : okRL L k ls ns = false := by
  unfold okRL
  rw [show (ns.all fun n => decide (least k ≤ n) && decide (n ≤ 1000)) = false from by rw [List.all_eq_false]; exact ⟨n, hn, by simpa using h⟩, Bool.and_false, Bool.and_false]
theorem brs_bad {L : List Str} {d : Int} (h : 0 ≤ d) (h1 : ("steel" : Str) ∉ L) (h3 : ("later" : Str) ∉ L) : ∀ r ∈ brs d, Form r.1 r.2.1.length r.2.2.length ∧ okRL L r.1 r.2.1 r.2.2 = false := fun r hr => by
  have w1 : least "width" = 1 := by decide +kernel
  have w2 : least "space" = 1 := by decide +kernel
  have w3 : least "area" = 1 := by decide +kernel
  have w4 : least "size" = 1 := by decide +kernel
  have w5 : least "apart" = 0 := by decide +kernel
  have w6 : least "cover" = 0 := by decide +kernel
  unfold brs at hr
  simp only [List.cons_append, List.nil_append, List.mem_cons, List.not_mem_nil, or_false] at hr
  rcases hr with rfl | rfl | rfl | rfl | rfl | rfl | rfl | rfl | rfl | rfl | rfl | rfl | rfl
  · exact ⟨.width, okRL_l (l := "steel") (by simp) h1⟩
  · exact ⟨.width, okRL_w (n := wg3 d) (by simp) (by rw [w1]; exact wg3_no h)⟩
  · exact ⟨.space, okRL_w (n := wg3 d) (by simp) (by rw [w2]; exact wg3_no h)⟩
  · exact ⟨.area, okRL_w (n := wg3 d) (by simp) (by rw [w3]; exact wg3_no h)⟩
  · exact ⟨.size, okRL_w (n := wg3 d) (by simp) (by rw [w4]; exact wg3_no h)⟩
  · exact ⟨.size, okRL_w (n := wg3 d) (by simp) (by rw [w4]; exact wg3_no h)⟩
  · exact ⟨.apart, okRL_w (n := lw3 d) (by simp) (by rw [w5]; exact lw3_no h)⟩
  · exact ⟨.cover, okRL_w (n := lw3 d) (by simp) (by rw [w6]; exact lw3_no h)⟩
  · exact ⟨.never, okRL_l (l := "steel") (by simp) h1⟩
  · exact ⟨.apart, okRL_d⟩
  · exact ⟨.cover, okRL_d⟩
  · exact ⟨.never, okRL_d⟩
  · exact ⟨.cover, okRL_l (l := "later") (by simp) h3⟩
end DL
namespace DL
open PySem PySem.Spec PyProof.Rows L2
theorem newB_iff {L : List Str} {n : Str} : newB L n = true ↔ nameB n = true ∧ n ∉ wds9 ∧ n ∉ L := by
  unfold newB; simp
theorem qDfs_at {c dp : Int} {n i : Nat} {f : Df} (h : (qDfs c dp n)[i]? = some f) : i < n ∧ f = qDf c dp i := by
  unfold qDfs at h
  rw [List.getElem?_map, Option.map_eq_some_iff] at h
  obtain ⟨k, hk, rfl⟩ := h
  obtain ⟨hl, e⟩ := List.getElem?_eq_some_iff.mp hk
  rw [List.length_range] at hl
  rw [List.getElem_range] at e
  exact ⟨hl, by rw [e]⟩
theorem qDfs_take {c dp : Int} {n i : Nat} (h : i ≤ n) : (qDfs c dp n).take i = qDfs c dp i := by
  unfold qDfs
  rw [← List.map_take, List.take_range, Nat.min_eq_left h]
theorem lyN_q (c dp : Int) (n : Nat) : lyN (qDfs c dp n) = qNs c n := by unfold lyN qNs; rw [qDfs_nm]
/-- a name that ends with no figure is no drawn one -/
theorem qNs_no {c : Int} {n : Nat} (hn : n ≤ 60) {x : Str} (hx : endD x = false) (hl : x ∉ lays) : x ∉ qNs c n := fun h => by
  unfold qNs at h
  rcases List.mem_append.mp h with h | h
  · exact hl h
  · obtain ⟨k, hk, e⟩ := List.mem_map.mp h
    have := List.mem_range.mp hk
    exact end_no (by omega) hx e
theorem qNm_new {c : Int} {i : Nat} (hi : i < 60) : newB (qNs c i) (qNm9 c i) = true := by
  rw [newB_iff]
  refine ⟨dStr_ok _ (by omega), fun h => end_no (by omega) (wds_end _ h) rfl, fun h => ?_⟩
  unfold qNs at h
  rcases List.mem_append.mp h with h | h
  · exact end_no (d := dr c 90 (i : Int)) (n := i) (by omega) (lays_end _ h) rfl
  · obtain ⟨k, hk, e⟩ := List.mem_map.mp h
    have := List.mem_range.mp hk
    have := dStr_inj (by omega) (by omega) e
    omega
theorem qDfs_all {c dp : Int} {n : Nat} (hn : n ≤ 60) : DfAll (qDfs c dp n) (qDfs c dp n).length := fun i f hi hf => by
  obtain ⟨h1, rfl⟩ := qDfs_at hf
  rw [qDfs_take (by omega), lyN_q]
  refine ⟨qNm_new (by omega), qEx_ok (fun e => ?_) (fun _ h => h) _ _ _ (by omega)⟩
  have := qNs_len c i
  rw [e] at this
  have this : 0 = 7 + i := this
  omega
theorem qNs_nd {c : Int} {n : Nat} (hn : n ≤ 60) : (qNs c n).Nodup := by
  induction n with
  | zero => exact (by decide +kernel : (lays ++ []).Nodup)
  | succ n ih =>
    rw [qNs_succ]
    refine List.nodup_append.mpr ⟨ih (by omega), by simp, fun a ha b hb e => ?_⟩
    rw [List.mem_singleton] at hb
    rw [e, hb] at ha
    exact (newB_iff.mp (qNm_new (c := c) (i := n) (by omega))).2.2 ha
theorem dStr_len (d : Int) {n : Nat} (h : n < 64) : (dStr d n).length ≤ 1000 := by
  have := pre_len d
  have h2 := dig_ok h
  unfold dStr
  rw [len_app, len_app, ld1]; omega
theorem qRus_len (N : List Str) (c : Int) : (qRus N c 5).length ≤ 5 := by unfold qRus; rw [List.length_map, List.length_range]; omega
theorem qRus_ok {c : Int} {n : Nat} (hn : n ≤ 60) (c' : Int) : ∀ r ∈ qRus (qNs c n) c' 5, RuG (qNs c n) r := fun r hr => by
  unfold qRus at hr
  obtain ⟨k, _, rfl⟩ := List.mem_map.mp hr
  exact qRu_ok (qNs_nd hn) (by rw [qNs_len]; omega) (fun _ h => h) _ _
theorem q_dkOk {c dp c' : Int} {n : Nat} (hn : n ≤ 5) : DkOk (qDfs c dp n) (qRus (lyN (qDfs c dp n)) c' 5) := by
  have hl := qDfs_len c dp n
  rw [lyN_q]
  have hq := qRus_len (qNs c n) c'
  refine ⟨⟨by omega, by omega, fun f hf => ?_, fun r hr => (qRus_ok (by omega) c' r hr).f⟩, by omega, by omega, qDfs_all (by omega), fun r hr => ?_⟩
  · obtain ⟨i, hi⟩ := List.mem_iff_getElem?.mp hf
    obtain ⟨h1, rfl⟩ := qDfs_at hi
    exact dStr_len _ (by omega)
  · rw [lyN_q]; exact (qRus_ok (by omega) c' r hr).ok
/-- one definition put in -/
theorem spoilt {F : List Df} {Q : List RuX} (ok : DkOk F Q) (hF : F.length ≤ 30) {a : Nat} (ha : a ≤ F.length) {f : Df} (hf : f.1.length ≤ 1000) {T : List Df} (hT : T.length ≤ 5) (hTn : ∀ g ∈ T, g.1.length ≤ 1000) (bad : newB (lyN (F.take a)) f.1 = false ∨ okE (lyN (F.take a)) 12 f.2 = false) : DkS (F.take a ++ [f] ++ F.drop a ++ T) Q ∧ DkBad (F.take a ++ [f] ++ F.drop a ++ T) Q := by
  have hl : (F.take a ++ [f] ++ F.drop a ++ T).length = F.length + 1 + T.length := by
    simp only [List.length_append, List.length_take, List.length_drop, List.length_cons, List.length_nil]; omega
  have ht : (F.take a).length = a := by rw [List.length_take]; omega
  have tk : ∀ i, i ≤ a → (F.take a ++ [f] ++ F.drop a ++ T).take i = F.take i := fun i hi => by
    rw [List.append_assoc, List.append_assoc, List.take_append_of_le_length (by omega), List.take_take, Nat.min_eq_left hi]
  have gt : ∀ i, i < a → (F.take a ++ [f] ++ F.drop a ++ T)[i]? = F[i]? := fun i hi => by
    rw [List.append_assoc, List.append_assoc, List.getElem?_append_left (by omega), List.getElem?_take_of_lt hi]
  have ga : (F.take a ++ [f] ++ F.drop a ++ T)[a]? = some f := by
    rw [List.append_assoc, List.append_assoc, List.getElem?_append_right (by omega), ht, Nat.sub_self]; rfl
  refine ⟨⟨by omega, by have := ok.rl; omega, fun g hg => ?_, ok.s.fm⟩, .df (by omega) ok.rl a f ga (fun i g hi hg => ?_) (by rw [tk a (Nat.le_refl _)]; exact bad)⟩
  · simp only [List.mem_append, List.mem_singleton] at hg
    rcases hg with ((hg | rfl) | hg) | hg
    · exact ok.s.nl g (List.mem_of_mem_take hg)
    · exact hf
    · exact ok.s.nl g (List.mem_of_mem_drop hg)
    · exact hTn g hg
  · rw [gt i hi] at hg
    rw [tk i (Nat.le_of_lt hi)]
    exact ok.df i g (by omega) hg
/-- one rule put in -/
theorem spoiltR {F : List Df} {Q : List RuX} (ok : DkOk F Q) (hQ : Q.length ≤ 30) {a : Nat} {r : RuX} (hf : Form r.1 r.2.1.length r.2.2.length) (bad : okRL (lyN F) r.1 r.2.1 r.2.2 = false) : DkS F (Q.take a ++ [r] ++ Q.drop a) ∧ DkBad F (Q.take a ++ [r] ++ Q.drop a) := by
  have hl : (Q.take a ++ [r] ++ Q.drop a).length = Q.length + 1 := by
    simp only [List.length_append, List.length_take, List.length_drop, List.length_cons, List.length_nil]; omega
  refine ⟨⟨by have := ok.dl; omega, by omega, ok.s.nl, fun g hg => ?_⟩, .ru ok.dl (by omega) ok.df r (by simp) bad⟩
  simp only [List.mem_append, List.mem_singleton] at hg
  rcases hg with (hg | rfl) | hg
  · exact ok.s.fm g (List.mem_of_mem_take hg)
  · exact hf
  · exact ok.s.fm g (List.mem_of_mem_drop hg)
def mStr (k : Nat) : Str := ("d" : Str) ++ Str.ofString (toString (k : Int))
def mny (n : Nat) : List Df := (List.range n).map fun k => (mStr k, tow (k % 12))
theorem mny_new : ∀ i : Fin 41, newB (lays ++ (List.range i.1).map mStr) (mStr i.1) = true := by decide +kernel
theorem mny_lyN (n : Nat) : lyN (mny n) = lays ++ (List.range n).map mStr := by unfold lyN mny; rw [List.map_map]; rfl
theorem mny_take {n i : Nat} (h : i ≤ n) : (mny n).take i = mny i := by
  unfold mny; rw [← List.map_take, List.take_range, Nat.min_eq_left h]
theorem mny_len (n : Nat) : (mny n).length = n := by unfold mny; rw [List.length_map, List.length_range]
theorem mStr_len : ∀ i : Fin 64, (mStr i.1).length ≤ 1000 := by decide +kernel
theorem lays_in {L : List Str} (n : Str) (h : n ∈ lays) : n ∈ lays ++ L := List.mem_append.mpr (.inl h)
theorem mny_all : DfAll (mny 40) (mny 40).length := fun i f hi hf => by
  rw [mny_len] at hi
  unfold mny at hf
  rw [List.getElem?_map, List.getElem?_range hi] at hf
  cases hf
  rw [mny_take (by omega), mny_lyN]
  exact ⟨mny_new ⟨i, by omega⟩, tow_ok (lays_in _ (by decide +kernel)) (lays_in _ (by decide +kernel)) (lays_in _ (by decide +kernel)) _ (by omega)⟩
def apR : RuX := ("apart", ["d0", "d39"], [0])
theorem apR_ok : okRL (lyN (mny 40)) apR.1 apR.2.1 apR.2.2 = true := by rw [mny_lyN]; decide +kernel
def wiR : RuX := ("width", ["via"], [1000])
theorem mny_s {n : Nat} (h : n ≤ 41) {Q : List RuX} (hQ : Q.length ≤ 60) (fm : ∀ r ∈ Q, Form r.1 r.2.1.length r.2.2.length) : DkS (mny n) Q := ⟨by rw [mny_len]; omega, hQ, fun f hf => by
  unfold mny at hf
  obtain ⟨k, hk, rfl⟩ := List.mem_map.mp hf
  exact mStr_len ⟨k, by have := List.mem_range.mp hk; omega⟩, fm⟩
theorem rm65 {k : Nat} {A : Around} (r : Room k A) : A.units + 65 < cLine := by have := r.un; omega
theorem mny_ok : DkOk (mny 40) (List.replicate 40 apR) := ⟨mny_s (by decide) (by decide) (fun r hr => by rw [(List.mem_replicate.mp hr).2]; exact .apart), by rw [mny_len]; decide, by decide, mny_all, fun r hr => by rw [(List.mem_replicate.mp hr).2]; exact apR_ok⟩
theorem mny_bad : DkS (mny 41) [] ∧ DkBad (mny 41) [] := ⟨mny_s (by decide) (by decide) (fun r hr => by cases hr), .dl (by rw [mny_len]; decide)⟩
theorem wi_bad : DkS [] (List.replicate 41 wiR) ∧ DkBad [] (List.replicate 41 wiR) := ⟨⟨by decide, by decide, (fun f hf => by cases hf), fun r hr => by rw [(List.mem_replicate.mp hr).2]; exact .width⟩, .rl (by decide) (by decide)⟩
end DL
namespace DL
open PySem PySem.Spec PyProof.Rows L2
def w12 (d : Int) : List Str := ["metal", "well", "and", "or", "minus", "odd", "grow", "shrink", "open", "layer", "rule", badAt d]
def wAt (d e : Int) : Str := (w12 d).getD (e % 12).toNat ""
def w3 (F : List Df) (a : Nat) : Str := ((["via"] : List Str) ++ (F.take a).map (·.1)).getLast (by simp)
theorem last_at {l : List Str} (h : l ≠ []) : atI (l.map D.str) (-1) = some (.str (l.getLast h)) := by
  have hp := List.length_pos_iff.mpr h
  unfold atI
  rw [show ixN (l.map D.str).length (-1) = some (l.length - 1) by rw [List.length_map]; unfold ixN; rw [if_neg (by omega), if_pos (by omega)]; congr 1; omega]
  show (l.map D.str)[l.length - 1]? = _
  rw [List.getElem?_map, List.getLast_eq_getElem, List.getElem?_eq_getElem (by omega)]
  rfl
theorem w3_at (F : List Df) (a : Nat) : atI (((["via"] : List Str) ++ (F.take a).map (·.1)).map D.str) (-1) = some (.str (w3 F a)) := last_at _
theorem word_bad {F : List Df} {a : Nat} {w : Str} (h : nameB w = false ∨ w ∈ wds9 ∨ w ∈ lyN (F.take a)) : newB (lyN (F.take a)) w = false := by
  cases e : newB (lyN (F.take a)) w with
  | false => rfl
  | true =>
    have := newB_iff.mp e
    rcases h with h | h | h
    · rw [h] at this; cases this.1
    · exact absurd h this.2.1
    · exact absurd h this.2.2
theorem wAt_bad {F : List Df} {a : Nat} (d e : Int) : newB (lyN (F.take a)) (wAt d e) = false ∧ (wAt d e).length ≤ 1000 := by
  have hm : wAt d e ∈ w12 d := by
    unfold wAt
    have h1 := Int.emod_nonneg e (b := 12) (by decide)
    have h2 := Int.emod_lt_of_pos e (b := 12) (by decide)
    rw [List.getD_eq_getElem?_getD, List.getElem?_eq_getElem (show (e % 12).toNat < (w12 d).length by show _ < 12; omega)]
    exact List.getElem_mem _
  generalize wAt d e = w at hm
  unfold w12 at hm
  have hb := badAt_no d
  have inL : ∀ x : Str, x ∈ lays → x ∈ lyN (F.take a) := fun x hx => List.mem_append.mpr (.inl hx)
  simp only [List.mem_cons, List.not_mem_nil, or_false] at hm
  rcases hm with rfl | rfl | rfl | rfl | rfl | rfl | rfl | rfl | rfl | rfl | rfl | rfl
  · exact ⟨word_bad (.inr (.inr (inL _ (by decide +kernel)))), by decide +kernel⟩
  · exact ⟨word_bad (.inr (.inr (inL _ (by decide +kernel)))), by decide +kernel⟩
  · exact ⟨word_bad (.inr (.inl (by decide +kernel))), by decide +kernel⟩
  · exact ⟨word_bad (.inr (.inl (by decide +kernel))), by decide +kernel⟩
  · exact ⟨word_bad (.inr (.inl (by decide +kernel))), by decide +kernel⟩
  · exact ⟨word_bad (.inr (.inl (by decide +kernel))), by decide +kernel⟩
  · exact ⟨word_bad (.inr (.inl (by decide +kernel))), by decide +kernel⟩
  · exact ⟨word_bad (.inr (.inl (by decide +kernel))), by decide +kernel⟩
  · exact ⟨word_bad (.inr (.inl (by decide +kernel))), by decide +kernel⟩
  · exact ⟨word_bad (.inr (.inl (by decide +kernel))), by decide +kernel⟩
  · exact ⟨word_bad (.inr (.inl (by decide +kernel))), by decide +kernel⟩
  · exact ⟨word_bad (.inl hb.1), hb.2⟩
theorem w3_bad {F : List Df} {a : Nat} (hn : ∀ f ∈ F, f.1.length ≤ 1000) : newB (lyN (F.take a)) (w3 F a) = false ∧ (w3 F a).length ≤ 1000 := by
  have hm : w3 F a ∈ (["via"] : List Str) ++ (F.take a).map (·.1) := List.getLast_mem _
  refine ⟨word_bad (.inr (.inr ?_)), ?_⟩
  · rcases List.mem_append.mp hm with h | h
    · rw [List.mem_singleton] at h; rw [h]; exact List.mem_append.mpr (.inl (by decide +kernel))
    · exact List.mem_append.mpr (.inr h)
  · rcases List.mem_append.mp hm with h | h
    · rw [List.mem_singleton] at h; rw [h]; decide +kernel
    · obtain ⟨f, hf, e⟩ := List.mem_map.mp h
      rw [← e]; exact hn f (List.mem_of_mem_take hf)
/-- drawn names hold no name without a figure -/
theorem q_no {c dp : Int} {n a : Nat} (hn : n ≤ 60) {x : Str} (hx : endD x = false) (hl : x ∉ lays) : x ∉ lyN ((qDfs c dp n).take a) := fun h => by
  have h2 : x ∈ lyN (qDfs c dp n) := by
    unfold lyN at h ⊢
    rcases List.mem_append.mp h with h | h
    · exact List.mem_append.mpr (.inl h)
    · obtain ⟨f, hf, e⟩ := List.mem_map.mp h
      exact List.mem_append.mpr (.inr (List.mem_map.mpr ⟨f, List.mem_of_mem_take hf, e⟩))
  rw [lyN_q] at h2
  exact qNs_no hn hx hl h2
theorem q_md {c dp : Int} {n : Nat} : ∀ d ∈ (qDfs c dp n).map Df.e, MD 5 d := fun d hd => by
  obtain ⟨f, hf, rfl⟩ := List.mem_map.mp hd
  obtain ⟨i, hi⟩ := List.mem_iff_getElem?.mp hf
  obtain ⟨_, rfl⟩ := qDfs_at hi
  exact md_tup (by simp) (md_cons md_str (md_cons (ex_md _ (qEx_dep 3 _ _)) md_nil))
theorem ru_md {r : RuX} (h : Form r.1 r.2.1.length r.2.2.length) : MD 5 (ruX r) := by
  have hl := form_len h
  refine md_tup (k := 4) (by unfold rDs; simp; omega) fun e he => ?_
  unfold rDs at he
  simp only [List.mem_cons, List.mem_append, List.mem_map] at he
  rcases he with rfl | ⟨x, _, rfl⟩ | ⟨x, _, rfl⟩
  · exact md_str
  · exact md_str
  · exact md_int
theorem noLs_mem {α : Type} {f : α → D} : ∀ {xs : List α}, (∀ x ∈ xs, noL (f x) = true) → noLs (xs.map f) = true
  | [], _ => rfl
  | x :: xs, h => by
    show (noL (f x) && noLs (xs.map f)) = true
    rw [h x List.mem_cons_self, noLs_mem fun y hy => h y (List.mem_cons_of_mem _ hy)]; rfl
theorem noL_md : ∀ {k : Nat} {d : D}, MD k d → noL d = true
  | 0, d, h => by rcases h with ⟨i, rfl⟩ | ⟨z, rfl⟩ <;> rfl
  | k + 1, d, h => by
    rcases h with (⟨i, rfl⟩ | ⟨z, rfl⟩) | ⟨es, rfl, _, h⟩
    · rfl
    · rfl
    · show noLs es = true
      have := noLs_mem (f := id) (xs := es) fun x hx => noL_md (h x hx)
      rwa [List.map_id] at this
theorem m1_len {n : Nat} (h : n < 64) : (Str.ofString "d").length + (Str.ofString (toString (n : Int))).length ≤ sizeLine := by
  have h2 := dig_ok h
  show ("d" : Str).length + _ ≤ sizeLine
  rw [ld1, sizeLine_eq]; omega
theorem rep_flat {α : Type} (f : α → D) (x : α) (n : Nat) : (List.replicate n [f x]).flatten = (List.replicate n x).map f := by simp
end DL
namespace DL
open PySem PySem.Spec PyProof.Rows L2
def PrD (K : PySem.W.Frag) (H : Hp) : List (Key × D) → List (V × V) → Prop
  | [], ps => ps = []
  | (k, d) :: r, ps => ∃ v t, ps = (kV k, v) :: t ∧ DR K H d v ∧ PrD K H r t
theorem PrD.mono {K : PySem.W.Frag} {H H' : Hp} (s : Same H H') : ∀ {kds : List (Key × D)} {ps : List (V × V)}, PrD K H kds ps → PrD K H' kds ps
  | [], ps, h => h
  | (k, d) :: r, ps, h => by
    obtain ⟨v, t, rfl, h1, h2⟩ := h
    exact ⟨v, t, rfl, DR.mono s _ _ h1, PrD.mono s h2⟩
end DL
namespace DL
open PySem PySem.Spec PyProof.Rows L2
/-- a def at an address -/
structure FnA (P : Program) (w : World) (K : PySem.W.Frag) (mg : Str → Option Value) (base : Heap) (f : Addr) (k : Nat) (R : List D → D → Prop) : Prop where
  ex : ∃ fd ps, FnOk P w K mg base CX0 k f fd ps (spR K R) ∧ PySem.W.keepIn K (.ref f) = true ∧ Binds K fd ps []
/-- the dict x of the module has the key z -/
structure KdI (K : PySem.W.Frag) (w : World) (mg : Str → Option Value) (x z : Str) : Prop where
  ex : ∃ p es n u, mg x = some (.ref p) ∧ KDict K w p es n ∧ PySem.W.nsIn K p z = some (some u)
end DL
namespace DL
open PySem PySem.Spec PyProof.Rows L2
/-- the dict x of the module gives for the text z the def g of the module -/
structure KdR (K : PySem.W.Frag) (w : World) (mg : Str → Option Value) (x z g : Str) : Prop where
  ex : ∃ f, mg g = some (.ref f) ∧ KdL K w mg x z (.ad f)
  has : KdI K w mg x z
theorem KdR.fn {P : Program} {w : World} {K : PySem.W.Frag} {mg : Str → Option Value} {base : Heap} {x z g : Str} {k : Nat} {R : List D → D → Prop} (h : KdR K w mg x z g) (G : Fn P w K mg base g k R) : ∃ f, KdL K w mg x z (.ad f) ∧ FnA P w K mg base f k R := by
  obtain ⟨f, h1, h2⟩ := h.ex
  obtain ⟨f', fd, ps, F, hm, hk, hb⟩ := G.ex
  have e := h1.symm.trans hm
  cases e
  exact ⟨f, h2, fd, ps, F, hk, hb⟩
end DL
namespace DL
open PySem PySem.Spec PyProof.Rows L2
section
variable {X : Cx} {C fI : Addr} {x : Str} {e : Expr} {es : List Expr} {t : TA} {p pos : Pos}
/-- an own class without own __init__, called -/
theorem pmk_ownAN {bmB : List Value} {B nI iI : String} (F : ExcBaseFacts B nI iI bmB) (q : PySem.W.excIn X.K C bmB nI = true) (gC : X.mg x = some (.ref C)) (kC : PySem.W.keepIn X.K (.ref C) = true) (r : Raises X (.ref C)) (hg : Gl X x) (ha : PA X (e :: es) t) (hdb : (x == ("__debug__" : Str)) = false := by decide)
    (he : starEach (e :: es) X.env = (false, eval e X.env) :: starEach es X.env := by rfl) (hpl : (backTo pos (starEach es X.env)).any (·.1) = false := by rfl) : L2N.PMk X (.Call (.Name x p) (e :: es) [] pos) (fun σ H Q => t σ H fun vs H1 => vs.length ≤ sizeLine ∧ Q (.ref C) none H1) := fun pins s σ H Q I h =>
  wpAny_Call_Name_kw (ld_glob I hg gC (PySem.W.callWith_K (h₀ := X.base) I.ok.mod.kin kC (thn (ha.run pos pins s σ H _ I h) fun us s1 ⟨vs, H1, I1, rv, hz, q1⟩ => ⟨I1.kIn, by
    obtain ⟨bm, N, nm, qn, bs, hdct, sn, sub, ab, col, dd, k0, k1, k2, k3, k5, mN, hC, hN, hni, T⟩ := exc_obj I1.kIn q
    exact wpAny_call_exc_subT F T hC hN hni (fun h' b hm => L2N.mk_of I1 hm r q1 (I1.hok.gone hm.new)) (by rw [List.nil_append, ← rv.length]; exact hz)⟩) he hpl) hdb)
end
section
variable {P : Program} {w : World} {K : PySem.W.Frag} {mg : Str → Option Value} {base : Heap}
theorem _root_.L2.Fun.okXN {x qual : Str} {st : Stmt} {f : Addr} {fd : FuncData} {N ps : List Str} {k : Nat} {sp : Sp} (F : Fun K x qual st f fd) (S : FnScope N ps (defScope st)) (len : ∀ vs H Q E, sp vs H Q E → vs.length = ps.length)
    (hbody : ∀ (cdv : Value) (A : Around) (outer : List Env) (s : Shared) (H : Hp) (vs : List V) (Q : VK) (E : XK), Room k (A.deeper (envOfC qual (defScope st) s.heap.objs.size f cdv)) → sp vs H Q E →
      ∃ t, PSs (cxOf (L2N.CX P w) P w K mg base N qual (defScope st) f cdv A outer s H E) (defBody st) t ∧ t { nx := fun _ H' => Q .non H', rt := Q } (L2.start N vs) H) : FnOk P w K mg base (L2N.CX P w) (k + 1) f fd ps sp := by
  obtain ⟨_, _, _, _, _, _, _, _, _, rfl, lk, hcd⟩ := F.ex
  exact fn_of lk hcd S len fun A outer s H vs Q E hr hs => hbody _ A outer s H vs Q E hr hs
end
/-- the context of a def's body, an error of it told with its context -/
abbrev bxN (P : Program) (w : World) (K : PySem.W.Frag) (mg : Str → Option Value) (base : Heap) (N : List Str) (qual : Str) (st : Stmt) (f : Addr) (cdv : Value) (A : Around) (outer : List Env) (s : Shared) (H : Hp) (E : XK) : Cx :=
  cxOf (L2N.CX P w) P w K mg base N qual (defScope st) f cdv A outer s H E
abbrev Err := PySem.W.Frag → Value → Option Addr → Hp → Prop
/-- an error of the class named cn, without fields -/
def errN (cn : Str) : Err := fun K v d _ => ∃ C, PySem.W.nsIn K mainGlobals cn = some (some (.ref C)) ∧ v = .ref C ∧ d = none
/-- e lets out such an error -/
def EG (X : Cx) (ρ : En) (e : Expr) (Θ : Err) : Prop := ∀ B0 B σ H0 H (Q : VK) (W : L2.WX), L2N.Takes X W → J X.K B0 B σ H0 H ρ → (∀ v d H0' H', Θ X.K v d H0' → JH H0 H H0' H' → W v d σ H') → RE X e σ H Q
def XG1 (X : Cx) (st : Stmt) (ρ : En) (Θ : Err) (ρx : En) : Prop := ∀ B0 B σ H0 H Dn (W : L2.WX), L2N.Takes X W → J X.K B0 B σ H0 H ρ → (∀ v d σ' H0' H', Θ X.K v d H0' → J X.K B0 B σ' H0' H' ρx → W v d σ' H') → RS X st Dn σ H
def XG (X : Cx) (sts : List Stmt) (ρ : En) (Θ : Err) (ρx : En) : Prop := ∀ B0 B σ H0 H Dn (W : L2.WX), L2N.Takes X W → J X.K B0 B σ H0 H ρ → (∀ v d σ' H0' H', Θ X.K v d H0' → J X.K B0 B σ' H0' H' ρx → W v d σ' H') → RSs X sts Dn σ H
def ThenG (X : Cx) (rest : List Stmt) (Θ : Err) (ρx : En) : Out → Prop
  | .nx ρ => XG X rest ρ Θ ρx
  | _ => False
section
variable {X : Cx} {ρ ρx : En} {Θ : Err} {e : Expr} {st : Stmt} {rest sa sb : List Stmt} {pos : Pos}
theorem xg_head (h : XG1 X st ρ Θ ρx) : XG X (st :: rest) ρ Θ ρx := fun B0 B σ H0 H Dn W tk j k => ⟨_, pss_cons ps_star pss_star, h B0 B σ H0 H _ W tk j k⟩
theorem xg_cons (h : WS X st ρ (ThenG X rest Θ ρx)) : XG X (st :: rest) ρ Θ ρx := fun B0 B σ H0 H Dn W tk j k => by
  refine ⟨_, pss_cons ps_star pss_star, h B0 B σ H0 H _ j fun o ho => ?_⟩
  cases o with
  | nx ρ' => exact fun σ' H0' H' j' => ho B0 B σ' H0' H' Dn W tk j' k
  | bk ρ' => exact ho.elim
  | ct ρ' => exact ho.elim
  | rt d => exact ho.elim
  | ro c => exact ho.elim
  | rc d cs => exact ho.elim
theorem xg_if {c : Expr} {k : Bool} (hc : TD X ρ c k) (h1 : k = true → XG X sa ρ Θ ρx) (h2 : k = false → XG X sb ρ Θ ρx) : XG1 X (.If c sa sb pos) ρ Θ ρx := fun B0 B σ H0 H Dn W tk j kk => by
  refine ⟨_, ps_if pt_star pss_star pss_star, hc B0 B σ H0 H _ j fun H0' H' g => ?_⟩
  cases k with
  | true => exact iteT (h1 rfl B0 B σ H0' H' Dn W tk (j.grow g) kk)
  | false => exact iteF (h2 rfl B0 B σ H0' H' Dn W tk (j.grow g) kk)
/-- if c: .. raise; what follows raises too, or is never reached -/
theorem xg_ifr {c : Expr} {k : Bool} (hc : TD X ρ c k) (h1 : k = true → XG X sa ρ Θ ρx) (h2 : k = false → XG X rest ρ Θ ρx) : XG X (.If c sa [] pos :: rest) ρ Θ ρx := by
  cases k with
  | true => exact xg_head (xg_if hc (fun _ => h1 rfl) fun h => by cases h)
  | false => exact xg_cons (ws_if hc (fun h => by cases h) fun _ => ws_nil (h2 rfl))
theorem xg_share (i : Nat) {c : OC} (hi : ρ[i]? = some (.ow c)) (h : XG X rest (ρ.set i (.sh c.d)) Θ ρx) : XG X rest ρ Θ ρx := fun B0 B σ H0 H Dn W tk j k => by
  obtain ⟨H0', j', _⟩ := j.share hi
  exact h B0 B σ H0' H Dn W tk j' k
theorem xg_expr (h : EG X ρ e Θ) (hs : swapsWith e none pos.line X.env = pure false := by rfl) : XG1 X (.Expr e pos) ρ Θ ρ := fun B0 B σ H0 H Dn W tk j k =>
  ⟨_, ps_expr pe_star hs, h B0 B σ H0 H _ W tk j fun v d L0 L t g => k v d σ L0 L t (j.grow g)⟩
/-- raise cn(e, ..), a class without fields -/
theorem xg_raise {cn : Str} {es : List Expr} {ds : List D} {p pos' : Pos} (xc : Xc X.K X.mg cn) (hg : Gl X cn) (ha : AD X ρ (e :: es) ds) (hl : ds.length ≤ sizeLine := by simp only [List.length_cons, List.length_nil]; decide) (hc : X.calm = true := by rfl) (hdb : (cn == ("__debug__" : Str)) = false := by decide +kernel)
    (he : starEach (e :: es) X.env = (false, eval e X.env) :: starEach es X.env := by rfl) (hpl : (backTo pos (starEach es X.env)).any (·.1) = false := by rfl) :
    XG1 X (.Raise (some (.Call (.Name cn p) (e :: es) [] pos)) none pos') ρ (errN cn) ρ := fun B0 B σ H0 H Dn W tk j k => by
  obtain ⟨C, hC, hm, hx, hk, hb, ht, _⟩ := xc.ex
  refine ⟨_, L2N.ps_raise hc tk (pmk_ownAN PySem.F.excBase_ValueError hx hm hk (raises_own hb ht) hg pa_star hdb he hpl), ha B0 B σ H0 H _ j fun vs G0 G g r => ⟨by rw [← DRs.length r]; exact hl, k _ _ σ G0 G ⟨C, hC, rfl, rfl⟩ (j.grow g)⟩⟩
end
def spIXG (K : PySem.W.Frag) (cn : Str) (R : List D → Err → Prop) : Sp := fun vs H _ E => ∃ H0 a C dx ds Θ ws, vs = .ref a :: ws ∧ PySem.W.nsIn K mainGlobals cn = some (some (.ref C)) ∧ Same H0 H ∧ H a = some (.ins C dx []) ∧ H0 a = none ∧ DRs K H0 ds ws ∧ R ds Θ ∧
  ∀ v d H0' H', Θ K v d H0' → JH H0 (er H a) H0' H' → E v d H'
structure FnIXG (P : Program) (w : World) (K : PySem.W.Frag) (mg : Str → Option Value) (base : Heap) (cn : Str) (k : Nat) (R : List D → Err → Prop) : Prop where
  ex : ∃ C f fd ps, PySem.W.nsIn K mainGlobals cn = some (some (.ref C)) ∧ mg cn = some (.ref C) ∧ Mk K C f ∧ FnOk P w K mg base (L2N.CX P w) k f fd ps (spIXG K cn R) ∧ Binds K fd ps []
section
variable {P : Program} {w : World} {K : PySem.W.Frag} {mg : Str → Option Value} {base : Heap}
theorem fn_okIXG {x qual : Str} {st : Stmt} {f : Addr} {fd : FuncData} {N ps : List Str} {k : Nat} {cn : Str} {R : List D → Err → Prop} (F : Fun K x qual st f fd) (S : FnScope N ps (defScope st)) (hR : ∀ ds c, R ds c → ds.length + 1 = ps.length)
    (h : ∀ a ds c, R ds c → ∀ (cdv : Value) (A : Around) (outer : List Env) (s : Shared) (H : Hp) (E : XK), Room k (A.deeper (envOfC qual (defScope st) s.heap.objs.size f cdv)) →
      ∃ ρx, XG (bxN P w K mg base N qual st f cdv A outer s H E) (defBody st) (enI N a cn ds) c ρx) : FnOk P w K mg base (L2N.CX P w) (k + 1) f fd ps (spIXG K cn R) := by
  refine F.okXN S (fun vs H Q E hs => ?_) fun cdv A outer s H vs Q E hr hs => ?_
  · obtain ⟨H0, a, C, dx, ds, xn, ws, rfl, hC, s0, ha, h0, r, q, _⟩ := hs
    rw [List.length_cons, ← DRs.length r]; exact hR ds xn q
  · obtain ⟨H0, a, C, dx, ds, xn, ws, rfl, hC, s0, ha, h0, r, q, kk⟩ := hs
    have hN : ds.length + 1 ≤ N.length := by
      have h1 := hR ds xn q
      have h2 := congrArg List.length S.pre
      rw [List.length_take] at h2
      omega
    obtain ⟨ρx, h3⟩ := h a ds xn q cdv A outer s H E hr
    obtain ⟨t, h1, h2⟩ := h3 H0 (er H a) (L2.start N (.ref a :: ws)) H0 H { nx := fun _ H' => Q .non H', rt := Q } (fun cls d _ H' => E cls d H') (L2N.takes_of rfl rfl rfl rfl) (j_startI s0 hC ha h0 r hN) fun v d σ' G0 G t j' => kk v d G0 G t j'.hp
    exact ⟨t, h1, h2⟩
end
section
variable {X : Cx} {ρ ρx : En} {e o : Expr} {es : List Expr} {pos p apos : Pos} {Θ : Err} {ds fds : List D} {ns : List Str} {cn m : Str} {k : Nat} {pl : Sem Bool}
theorem eg_make {R : List D → Err → Prop} (G : FnIXG X.prog X.w X.K X.mg X.base cn k R) (hr : Room (k + 1) X.A) (hg : Gl X cn) (ha : AD X ρ (e :: es) ds) (hR : R ds Θ)
    (hdb : (cn == ("__debug__" : Str)) = false := by decide +kernel) (he : starEach (e :: es) X.env = (false, eval e X.env) :: starEach es X.env := by rfl) (hpl : (backTo pos (starEach es X.env)).any (·.1) = false := by rfl) :
    EG X ρ (.Call (.Name cn p) (e :: es) [] pos) Θ := fun B0 B σ H0 H Q W tk j k => by
  obtain ⟨C, f, fd, ps, hC, hm, M, F, hb⟩ := G.ex
  refine RE.of (pe_makeS (E := WE W) M F hr hg hm hb (fun σ => L2N.passAt tk σ) pa_star hdb he hpl) (ha B0 B σ H0 H _ j fun vs G0 G g r => ?_)
  intro x dx hx hdx hne
  have g0x : G0 x = none := g.sh.free hx
  have g0d : G0 dx = none := g.sh.free hdx
  have s1 : Same G0 (upd (upd G dx (.own x)) x (.ins C dx [])) := fun b u q => by
    rw [upd_ne (ne_of_none q g0x), upd_ne (ne_of_none q g0d)]
    exact g.sh b u q
  have sE : ∀ b u, G b = some u → er (upd (upd G dx (.own x)) x (.ins C dx [])) x b = some u := fun b u q => by
    have n1 := ne_of_none q hx
    rw [er_ne n1, upd_ne n1, upd_ne (ne_of_none q hdx)]
    exact q
  refine ⟨G0, x, C, dx, ds, Θ, vs, rfl, hC, s1, upd_same, g0x, r, hR, fun v d L0 L t gg => ?_⟩
  exact k v d L0 L t (g.trans ⟨gg.s0, gg.sh, fun b u q => gg.sB b u (sE b u q), fun b u q nt q' => gg.fr b u (sE b u q) nt q'⟩)
/-- for x in xs: the k-th turn raises -/
theorem xg_for {tg iter : Expr} {body : List Stmt} {α : Type} {zs : List D} (xs : List α) (enc : α → D) (hc : X.calm = true) (hi : ID X ρ tg iter zs) (he : zs = xs.map enc) (I : Nat → En → Prop) (h0 : I 0 ρ) (n : Nat) {y : α} (hn : xs[n]? = some y)
    (hs : ∀ i x ρ', i < n → xs[i]? = some x → I i ρ' → ∃ is ρ'', DG X is tg (enc x) ρ' ρ'' ∧ WSs X body ρ'' (fun o => match o with | .nx r => I (i + 1) r | .ct r => I (i + 1) r | _ => False)) (hx : ∀ ρ', I n ρ' → ∃ is ρ'', DG X is tg (enc y) ρ' ρ'' ∧ XG X body ρ'' Θ ρx)
    (hp : PassesOwn (model X.prog X.w) X.A X.env X.xe) (hf : ∀ x, foldedSetIterable iter X.env x = pure x := by intro _; rfl) : XG1 X (.For tg iter body [] pos) ρ Θ ρx := fun B0 B σ H0 H Dn W tk j kk => by
  subst he
  refine ⟨_, ps_for hp hc pi_star pg_star pss_star hf, hi B0 B σ H0 H _ j fun Jt G0 G g0 ⟨GG, Y, w, hG, hY⟩ => ?_⟩
  have j0 := j.grow g0
  have hnl : n < xs.length := (List.getElem?_eq_some_iff.mp hn).1
  refine for_it w (fun i σ' H1 => i ≤ n ∧ ∃ ρ' L0, I i ρ' ∧ J X.K G0 B σ' L0 H1 ρ') ⟨Nat.zero_le _, ρ, G0, h0, j0.rebase⟩ (fun i σ' H1 _ ⟨_, ρ', L0, _, j1⟩ => hG L0 H1 j1.hp.s0 j1.hp.sh) ?_ ?_
  · rintro i x σ1 H1 H1' hi ⟨hin, ρ1, L0, hI, j1⟩ hy
    have hxl : i < xs.length := by rwa [List.length_map] at hi
    have hxi : xs[i]? = some xs[i] := List.getElem?_eq_getElem hxl
    obtain ⟨L1, g2, rx⟩ := hY i L0 H1 x H1' (enc xs[i]) (by rw [List.getElem?_map, hxi]; rfl) j1.hp.s0 j1.hp.sh hy
    rcases Nat.lt_or_eq_of_le hin with hlt | heq
    · obtain ⟨is, ρ2, hg, hb⟩ := hs i xs[i] ρ1 hlt hxi hI
      refine hg G0 B σ1 L1 H1' x _ (j1.grow g2) rx fun σ2 j2 _ => hb G0 B σ2 L1 H1' _ j2 fun o ho => ?_
      cases o with
      | nx r => exact fun σ3 M0 M j3 => ⟨hlt, r, M0, ho, j3⟩
      | ct r => exact fun σ3 M0 M j3 => ⟨hlt, r, M0, ho, j3⟩
      | bk r => exact ho.elim
      | rt v => exact ho.elim
      | ro c => exact ho.elim
      | rc v cs => exact ho.elim
    · subst heq
      rw [hxi] at hn; cases hn
      obtain ⟨is, ρ2, hg, hb⟩ := hx ρ1 hI
      exact hg G0 B σ1 L1 H1' x _ (j1.grow g2) rx fun σ2 j2 _ => hb G0 B σ2 L1 H1' _ W tk j2 fun v d σ3 M0 M t j3 => kk v d σ3 M0 M t (j0.unbase j3)
  · rintro σ1 H1 ⟨hle, _⟩
    rw [List.length_map] at hle
    omega
end
end DL
namespace DL
open PySem PySem.Spec PyProof.Rows L2
theorem takes0N {X : Cx} : L2N.Takes X (fun _ _ _ _ => False) := fun _ _ ⟨_, _, _, _, _, _, _, _, _, _, _, _, _, _, _, _, z⟩ => z.elim
section
variable {X : Cx} {ρ ρx : En} {pos : Pos} {Φ : Out → Prop} {cn : Str}
/-- .. without fields -/
theorem ws_tryG (i : Nat) {body suite : List Stmt} {b0 : Stmt} {n xn : Str} {np pos' : Pos} (hN : X.N.Nodup) (xm : Xm X.K X.mg cn xn) (hg : Gl X xn) (hb : ∀ pn xe, PassesOwn (model X.prog X.w) X.A X.env xe → XG (X.tr pn xe) body ρ (errN cn) ρx)
    (hs : ∀ a C oe pn, PySem.W.nsIn X.K mainGlobals cn = some (some (.ref C)) → L2N.Zn (.ref C) none oe → (∃ vs, oe.data = .fields vs) → WSs (X.suite a ((a, oe) :: pn)) (b0 :: suite) (ρx.set i (.sh (.ad a))) (Aft i Φ))
    (hi : X.N[i]? = some n := by rfl) (hdb : (xn == ("__debug__" : Str)) = false := by decide +kernel) (hln : X.env.kindOf n = some .local := by rfl) (hst : X.stack = X.env :: X.outer := by rfl) (hf : X.env.frame = some X.env.locals := by rfl) :
    WS X (.Try body [.ExceptHandler (some (.Name xn np)) (some n) (b0 :: suite) pos'] [] [] pos) ρ Φ :=
  fun B0 B σ H0 H Dn j k => by
  obtain ⟨C, D, hC, hD, hex⟩ := xm.ex
  refine ⟨_, L2N.ps_try_as (i := i) (Wout := fun _ _ _ _ => False) (tb := fun W D σ H => ∀ pn xe, L2N.Takes (X.tr pn xe) W → PassesOwn (model X.prog X.w) X.A X.env xe → RSs (X.tr pn xe) body D σ H)
    (ts := fun a cls d D σ H => ∀ oe pn, L2N.Zn cls d oe → (∃ vs, oe.data = .fields vs) → RSs (X.suite a ((a, oe) :: pn)) (b0 :: suite) D σ H) hst hf hN hi hln (show Names X xn (.ref D) from ⟨hg, hdb, .inl hD⟩) takes0N
    (fun W pn xe tk po => ⟨fun pins s σ H D I h => pss_star.run pins s σ H D I (h pn xe tk po)⟩) (fun a oe cls d pn hz hf => ⟨fun pins s σ H D I h => pss_star.run pins s σ H D I (h oe pn hz hf)⟩), ?_⟩
  intro pn xe tk po
  refine hb pn xe po B0 B σ H0 H Dn _ tk j fun v d σ' L0 L t j' => ?_
  obtain ⟨C', hC', rfl, rfl⟩ := t
  have hC'' : PySem.W.nsIn X.K mainGlobals cn = some (some (.ref C')) := hC'
  rw [hC] at hC''; cases hC''
  refine ⟨true, hex, fun _ a ha oe pn' hz hfl => ?_, fun z => nomatch z⟩
  refine hs a C oe pn' hC hz hfl B0 B _ L0 L _ (J.setSh j' (d := .ad a) (v := .ref a) rfl) fun o ho => ?_
  cases o with
  | nx ρ' => exact fun σ'' M0 M j2 => k _ ho _ M0 M (J.setNo j2 i)
  | bk ρ' => exact fun σ'' M0 M j2 => k _ ho _ M0 M (J.setNo j2 i)
  | ct ρ' => exact fun σ'' M0 M j2 => k _ ho _ M0 M (J.setNo j2 i)
  | rt d => exact k _ ho
  | ro c => exact k _ ho
  | rc d cs => exact k _ ho
end
end DL
namespace DL
open PySem PySem.Spec PyProof.Rows L2
section
variable {X : Cx} {ρ ρx : En} {pos : Pos} {Φ : Out → Prop} {cn : Str} {Θ : Err}
theorem ws_tryGS (i : Nat) {body suite : List Stmt} {b0 : Stmt} {n xn : Str} {np pos' : Pos} (hN : X.N.Nodup) (xm : Xm X.K X.mg cn xn) (hg : Gl X xn) (hb : ∀ pn xe, PassesOwn (model X.prog X.w) X.A X.env xe → XG (X.tr pn xe) body ρ (errN cn) ρ)
    (hs : ∀ a C oe pn, PySem.W.nsIn X.K mainGlobals cn = some (some (.ref C)) → L2N.Zn (.ref C) none oe → (∃ vs, oe.data = .fields vs) → WSs (X.suite a ((a, oe) :: pn)) (b0 :: suite) (ρ.set i (.sh (.ad a))) (Aft i Φ))
    (hi : X.N[i]? = some n := by rfl) (hdb : (xn == ("__debug__" : Str)) = false := by decide +kernel) (hln : X.env.kindOf n = some .local := by rfl) (hst : X.stack = X.env :: X.outer := by rfl) (hf : X.env.frame = some X.env.locals := by rfl) :
    WS X (.Try body [.ExceptHandler (some (.Name xn np)) (some n) (b0 :: suite) pos'] [] [] pos) ρ Φ := ws_tryG i hN xm hg hb hs hi hdb hln hst hf
/-- for x in xs, told slot by slot: the n-th turn raises -/
theorem xg_forU {tg iter : Expr} {body : List Stmt} {α U : Type} {zs : List D} (xs : List α) (enc : α → D) (hc : X.calm = true) (hi : ID X ρ tg iter zs) (he : zs = xs.map enc) (G : Nat → U → List (Nat × Sl)) (V : En → U) (n : Nat) {y : α} (hn : xs[n]? = some y) (hρ : upds ρ (G 0 (V ρ)) = ρ)
    (hs : ∀ i x u, i < n → xs[i]? = some x → ∃ is ρ'', DG X is tg (enc x) (upds ρ (G i u)) ρ'' ∧ WSs X body ρ'' (fun o => match o with | .nx r => upds ρ (G (i + 1) (V r)) = r | .ct r => upds ρ (G (i + 1) (V r)) = r | _ => False))
    (hx : ∀ u, ∃ is ρ'', DG X is tg (enc y) (upds ρ (G n u)) ρ'' ∧ XG X body ρ'' Θ ρx) (hp : PassesOwn (model X.prog X.w) X.A X.env X.xe) (hf : ∀ x, foldedSetIterable iter X.env x = pure x := by intro _; rfl) : XG1 X (.For tg iter body [] pos) ρ Θ ρx := by
  refine xg_for xs enc hc hi he (fun i r => ∃ u, upds ρ (G i u) = r) ⟨_, hρ⟩ n hn (fun i x r hin hxi hI => ?_) (fun r hI => ?_) hp hf
  · obtain ⟨u, rfl⟩ := hI
    obtain ⟨is, r2, h1, h2⟩ := hs i x u hin hxi
    refine ⟨is, r2, h1, ws_mono h2 fun o ho => ?_⟩
    cases o with
    | nx r => exact ⟨_, ho⟩
    | ct r => exact ⟨_, ho⟩
    | bk r => exact ho
    | rt v => exact ho
    | ro c => exact ho
    | rc v cs => exact ho
  · obtain ⟨u, rfl⟩ := hI
    exact hx u
end
end DL
theorem L2H.RoomH.units {k : Nat} {A : PySem.Around} (r : L2H.RoomH k A) : A.units + 64 < PySem.cLine := by have := r.un; omega
namespace DL
open PySem PySem.Spec PyProof.Rows L2
def nosE (n : Nat) : En := List.replicate n .no
theorem J.nos {K : PySem.W.Frag} {B0 B H0 H : Hp} {σ : L2.St} {ρ : En} {n : Nat} (j : J K B0 B σ H0 H ρ) (h : ρ.length = n) : J K B0 B σ H0 H (nosE n) := by
  unfold nosE
  have key : ∀ (i : Nat) s, (List.replicate n Sl.no)[i]? = some s → s = .no := fun i s e => by
    rw [List.getElem?_replicate] at e
    split at e
    · exact (Option.some.inj e).symm
    · cases e
  refine ⟨j.hp, by rw [j.len, h, List.length_replicate], fun i s ov h1 _ => ?_, fun i k s s' ov ov' a h1 _ _ _ w _ => ?_⟩
  · rw [key i s h1]; trivial
  · rw [key i s h1] at w; exact w.elim
/-- nothing more is told of the slots -/
theorem xg_no {X : Cx} {sts : List Stmt} {ρ ρ' : En} {Θ : Err} {n : Nat} (h : XG X sts ρ Θ ρ') (hl : ρ'.length = n := by first | rfl | simp) : XG X sts ρ Θ (nosE n) := fun B0 B σ H0 H Dn W tk j k =>
  h B0 B σ H0 H Dn W tk j fun v d σ' H0' H' t j' => k v d σ' H0' H' t (j'.nos hl)
end DL
namespace DL
open PySem PySem.Spec PyProof.Rows L2
section
variable {X : Cx}
theorem any_eqv {n : Nat} {d : D} (c : Cm n d) : ∀ {ds : List D}, (∀ e ∈ ds, Cm n e) → ((D.pys ds).any (fun z => PyData.eqv z d.py) = true ↔ d ∈ ds)
  | [], _ => by simp [D.pys]
  | e :: ds, cs => by
    have ih := any_eqv c (ds := ds) fun x hx => cs x (by simp [hx])
    show (PyData.eqv e.py d.py || (D.pys ds).any (fun z => PyData.eqv z d.py)) = true ↔ _
    rw [Bool.or_eq_true, ih, eqv_iff n n e d (cs e (by simp)) c, List.mem_cons]
    exact ⟨fun h => h.elim (fun z => .inl z.symm) .inr, fun h => h.elim (fun z => .inl z.symm) .inr⟩
theorem c2_notInC {n : Nat} {d : D} {ds : List D} {k : Bool} (hu : X.A.units + 65 < cLine) (c : Cm n d) (cs : ∀ e ∈ ds, Cm n e) (hk : k = true ↔ d ∈ ds) (hn : n + 1 ≤ 63 := by decide) : C2 X .NotIn d (.lst ds) (.bl (!k)) := ⟨_, op_notInD hu, fun H0 H x y Q s r1 r2 kk => by
  have cl : Cm (n + 1) (.lst ds) := .lst cs
  refine ⟨d.py, D.pys ds, DR.dp _ _ c.plain (DR.mono s _ _ r1), DR.dp _ _ cl.plain (DR.mono s _ _ r2), (c.cmp (by omega)).s, (cl.cmp hn).s, ?_⟩
  have e : ((D.pys ds).any fun z => PyData.eqv z d.py) = k := by rw [Bool.eq_iff_iff, any_eqv c cs, hk]
  rw [e]
  exact kk _ H0 H (JH.refl s) rfl⟩
end
end DL
namespace DL
open PySem PySem.Spec PyProof.Rows L2
local macro_rules | `(tactic| walk_at "side") => `(tactic| first | assumption | decide | omega | (simp only [List.length_map, List.length_append, List.length_cons, List.length_nil, sizeLine_eq] at *; omega))
local macro_rules | `(tactic| walk_at "len") => `(tactic| first | decide | (simp [sizeLine_eq]; done) | (simp [sizeLine_eq]; omega))
local macro_rules | `(tactic| walk_at "b2") => `(tactic| first
  | exact b2_add | exact b2_sub | exact b2_mod (by decide) | exact b2_fdiv ⟨by decide, by decide⟩
  | exact b2_mul (by first | exact Or.inr ⟨by decide, by decide⟩ | exact Or.inl ⟨by decide, by decide⟩ | exact Or.inr ⟨by omega, by omega⟩ | exact Or.inl ⟨by omega, by omega⟩)
  | exact b2_mod (by first | assumption | omega) | exact b2_fdiv ⟨by omega, by omega⟩ | exact b2_addS (by walk_at "side"))
local macro_rules | `(tactic| walk_at "c2") => `(tactic| first
  | exact c2_lt | exact c2_le | exact c2_gt | exact c2_ge | exact c2_eqI | exact c2_neI | exact c2_isN | exact c2_notN | exact c2_isB | exact c2_notB | exact c2_eqB | exact c2_neB | exact c2_eqS | exact c2_neS | exact c2_leS | exact c2_inInts | exact c2_eq2 (by assumption) | exact c2_eq4 (by assumption) | exact c2_ne2 (by assumption) | exact c2_ne4 (by assumption) | exact c2_eqInts (by assumption) | exact c2_neInts (by assumption) | exact c2_eqIntsL (by assumption) | exact c2_inSq (by assumption) | exact c2_notInSq (by assumption) | exact c2_eqBx (by assumption) | exact c2_neBx (by assumption))
local macro_rules | `(tactic| walk_at "ix") => `(tactic| first | exact IX.t0 | exact IX.t1 | exact IX.t2 | exact IX.t3 | exact IX.t4 | exact IX.t5 | exact IX.l0 | exact IX.l1 | exact IX.l2 | exact IX.l (at_draws (by first | decide | omega) (by first | decide | omega)) | exact ix_sel3 ⟨by omega, by omega⟩ | exact IX.l rfl)
local macro_rules | `(tactic| walk_at "bc") => `(tactic| first | exact bc_int | exact bc_lenL | exact bc_lenT | exact bc_tupL | exact bc_tupT | exact bc_min2 rfl | exact bc_max2 rfl)
local macro_rules | `(tactic| walk_at "bo") => `(tactic| first | exact bo_listL | exact bo_listT)
local macro_rules | `(tactic| walk_at "mk") => `(tactic| first | exact .mk _ | exact .mk _ _ | exact .mk _ _ _ | exact .mk _ _ _ _ | exact .mk _ _ _ _ _ | exact .mk _ _ _ _ _ _ | exact .mk _ _ _ _ _ _ _ | exact .mk _ _ _ _ _ _ _ _ | exact .mk)
local macro_rules | `(tactic| walk_at "kd") => `(tactic| first | exact kd_int | exact kd_bl | exact kd_str | (refine' kd_tup ?l ?c ?e ?z ?r; (case l => k_is); (case c => rfl); (case e => rfl); (case z => decide); (case r => walk_at "kds")))
local macro_rules | `(tactic| walk_at "kds") => `(tactic| first | exact kds_nil | (refine' kds_cons ?a ?b; (case a => walk_at "kd"); (case b => walk_at "kds")))
local macro_rules | `(tactic| walk_at "en") => `(tactic| simp only [en, enI, enL, List.map_cons, List.map_nil, List.length_cons, List.length_nil, List.cons_append, List.nil_append, List.replicate, Nat.add_one_sub_one, Nat.reduceAdd, Nat.reduceSub])
local macro_rules | `(tactic| walk_at "env") => `(tactic| simp only [upds, List.foldl_cons, List.foldl_nil, OC.d, List.set_cons_zero, List.set_cons_succ])
inductive R_is_name : List D → D → Prop where
  | mk (x : Str) (h : x.length ≤ sizeLine) : R_is_name [.str x] (.bl (nameB x))
inductive R_rule_layers : List D → D → Prop where
  | mk (k : Str) (ls : List Str) (ns : List Int) (f : Form k ls.length ns.length) : R_rule_layers [.tup (rDs k ls ns)] (.tup (ls.map .str))
inductive R_rule_numbers : List D → D → Prop where
  | mk (k : Str) (ls : List Str) (ns : List Int) (f : Form k ls.length ns.length) : R_rule_numbers [.tup (rDs k ls ns)] (.tup (ns.map .int))
inductive R_is_rule_over : List D → D → Prop where
  | mk (L : List Str) (k : Str) (ls : List Str) (ns : List Int) (f : Form k ls.length ns.length) : R_is_rule_over [.lst (L.map .str), .tup (rDs k ls ns)] (.bl (okRL L k ls ns))
inductive R_parts_of : List D → D → Prop where
  | mk (x : Ex) : R_parts_of [x.e] (.tup (x.parts.map Ex.e))
inductive R_inner_parts : List D → D → Prop where
  | mk (xs : List Ex) (ok : LvOk 12 xs) : R_inner_parts [.lst (xs.map Ex.e)] (.lst ((inP xs).map Ex.e))
inductive R_expression_depth : List D → D → Prop where
  | mk (k : Nat) (h : k < 12) : R_expression_depth [(tow k).e] (.int ((k : Int) + 1))
inductive R_is_size : List D → D → Prop where
  | mk (o : Str) (n : Int) : R_is_size [.str o, .int n] (.bl (szB o n))
inductive R_is_expression_over_z0 : List D → D → Prop where
  | mk (L : List Str) (x : Ex) (d : Int) (hd : d ≤ 0) : R_is_expression_over_z0 [.lst (L.map .str), x.e, .int d] (.bl (okE L d.toNat x))
inductive R_is_expression_over_z1 : List D → D → Prop where
  | mk (L : List Str) (x : Ex) (d : Int) (hd : d ≤ 1) : R_is_expression_over_z1 [.lst (L.map .str), x.e, .int d] (.bl (okE L d.toNat x))
inductive R_is_expression_over_z2 : List D → D → Prop where
  | mk (L : List Str) (x : Ex) (d : Int) (hd : d ≤ 2) : R_is_expression_over_z2 [.lst (L.map .str), x.e, .int d] (.bl (okE L d.toNat x))
inductive R_is_expression_over_z3 : List D → D → Prop where
  | mk (L : List Str) (x : Ex) (d : Int) (hd : d ≤ 3) : R_is_expression_over_z3 [.lst (L.map .str), x.e, .int d] (.bl (okE L d.toNat x))
inductive R_is_expression_over_z4 : List D → D → Prop where
  | mk (L : List Str) (x : Ex) (d : Int) (hd : d ≤ 4) : R_is_expression_over_z4 [.lst (L.map .str), x.e, .int d] (.bl (okE L d.toNat x))
inductive R_is_expression_over_z5 : List D → D → Prop where
  | mk (L : List Str) (x : Ex) (d : Int) (hd : d ≤ 5) : R_is_expression_over_z5 [.lst (L.map .str), x.e, .int d] (.bl (okE L d.toNat x))
inductive R_is_expression_over_z6 : List D → D → Prop where
  | mk (L : List Str) (x : Ex) (d : Int) (hd : d ≤ 6) : R_is_expression_over_z6 [.lst (L.map .str), x.e, .int d] (.bl (okE L d.toNat x))
inductive R_is_expression_over_z7 : List D → D → Prop where
  | mk (L : List Str) (x : Ex) (d : Int) (hd : d ≤ 7) : R_is_expression_over_z7 [.lst (L.map .str), x.e, .int d] (.bl (okE L d.toNat x))
inductive R_is_expression_over_z8 : List D → D → Prop where
  | mk (L : List Str) (x : Ex) (d : Int) (hd : d ≤ 8) : R_is_expression_over_z8 [.lst (L.map .str), x.e, .int d] (.bl (okE L d.toNat x))
inductive R_is_expression_over_z9 : List D → D → Prop where
  | mk (L : List Str) (x : Ex) (d : Int) (hd : d ≤ 9) : R_is_expression_over_z9 [.lst (L.map .str), x.e, .int d] (.bl (okE L d.toNat x))
inductive R_is_expression_over_z10 : List D → D → Prop where
  | mk (L : List Str) (x : Ex) (d : Int) (hd : d ≤ 10) : R_is_expression_over_z10 [.lst (L.map .str), x.e, .int d] (.bl (okE L d.toNat x))
inductive R_is_expression_over_z11 : List D → D → Prop where
  | mk (L : List Str) (x : Ex) (d : Int) (hd : d ≤ 11) : R_is_expression_over_z11 [.lst (L.map .str), x.e, .int d] (.bl (okE L d.toNat x))
inductive R_is_expression_over_z12 : List D → D → Prop where
  | mk (L : List Str) (x : Ex) (d : Int) (hd : d ≤ 12) : R_is_expression_over_z12 [.lst (L.map .str), x.e, .int d] (.bl (okE L d.toNat x))
inductive R_is_new_layer : List D → D → Prop where
  | mk (L : List Str) (n : Str) (h : n.length ≤ sizeLine) : R_is_new_layer [.lst (L.map .str), .str n] (.bl (newB L n))
inductive R_Deck_init : List D → List Str → List D → Prop where
  | mk (F : List Df) (Q : List RuX) (ok : DkOk F Q) : R_Deck_init [.lst (F.map Df.e), .lst (Q.map ruX)] ["definitions", "rules"] [.tup (F.map Df.e), .tup (Q.map ruX)]
inductive R_law_cell : List D → D → Prop where
  | mk (ns : List Int) (k : Int) (h : 0 ≤ k) : R_law_cell [.lst (ns.map .int), .int k] (.int (cellAt ns k))
inductive R_law_draws : List D → D → Prop where
  | mk (c n : Int) (h : 0 ≤ n) (h2 : n ≤ 1000) : R_law_draws [.int c, .int n] (.lst ((draws c n).map .int))
inductive R_law_is_int : List D → D → Prop where
  | mk (i : Int) : R_law_is_int [.int i] (.bl true)
inductive R_law_is_number : List D → D → Prop where
  | mk (i j : Int) : R_law_is_number [.int i, .int j] (.bl (decide (i = j)))
inductive R_law_layers : List D → D → Prop where
  | mk : R_law_layers [] (.lst (lays.map .str))
inductive R_law_name : List D → D → Prop where
  | mk (d : Int) (h : 0 ≤ d) : R_law_name [.int d] (.str (nmOf d))
inductive R_law_like_int : List D → D → Prop where
  | mk (i : Int) : R_law_like_int [.int i, .int i] (.bl true)
inductive R_law_like_str : List D → D → Prop where
  | mk (z : Str) : R_law_like_str [.str z, .str z] (.bl true)
inductive R_law_like_m1 : List D → D → Prop where
  | mk (ds : List D) (h : ds.length ≤ 1000) (hl : ∀ d ∈ ds, MD 0 d) : R_law_like_m1 [.tup ds, .tup ds] (.bl true)
inductive R_law_like_m2 : List D → D → Prop where
  | mk (ds : List D) (h : ds.length ≤ 1000) (hl : ∀ d ∈ ds, MD 1 d) : R_law_like_m2 [.tup ds, .tup ds] (.bl true)
inductive R_law_like_m3 : List D → D → Prop where
  | mk (ds : List D) (h : ds.length ≤ 1000) (hl : ∀ d ∈ ds, MD 2 d) : R_law_like_m3 [.tup ds, .tup ds] (.bl true)
inductive R_law_like_m4 : List D → D → Prop where
  | mk (ds : List D) (h : ds.length ≤ 1000) (hl : ∀ d ∈ ds, MD 3 d) : R_law_like_m4 [.tup ds, .tup ds] (.bl true)
inductive R_law_like_m5 : List D → D → Prop where
  | mk (ds : List D) (h : ds.length ≤ 1000) (hl : ∀ d ∈ ds, MD 4 d) : R_law_like_m5 [.tup ds, .tup ds] (.bl true)
inductive R_law_like_m6 : List D → D → Prop where
  | mk (ds : List D) (h : ds.length ≤ 1000) (hl : ∀ d ∈ ds, MD 5 d) : R_law_like_m6 [.tup ds, .tup ds] (.bl true)
inductive R_law_qbad_name : List D → D → Prop where
  | mk (d : Int) (h : 0 ≤ d) : R_law_qbad_name [.int d] (.str (badAt d))
inductive R_law_qexpression_d0 : List D → D → Prop where
  | mk (c : Int) (N : List Str) (a dp : Int) (hN : 0 < N.length) (hNl : N.length ≤ 100) (hd : dp ≤ 1) : R_law_qexpression_d0 [.lst ((draws c 90).map .int), .int a, .int dp, .lst (N.map .str)] (qEx (dr c 90) N 0 a dp).e
inductive R_law_qexpression_d1 : List D → D → Prop where
  | mk (c : Int) (N : List Str) (a dp : Int) (hN : 0 < N.length) (hNl : N.length ≤ 100) (hd : dp ≤ 2) : R_law_qexpression_d1 [.lst ((draws c 90).map .int), .int a, .int dp, .lst (N.map .str)] (qEx (dr c 90) N 1 a dp).e
inductive R_law_qexpression_d2 : List D → D → Prop where
  | mk (c : Int) (N : List Str) (a dp : Int) (hN : 0 < N.length) (hNl : N.length ≤ 100) (hd : dp ≤ 3) : R_law_qexpression_d2 [.lst ((draws c 90).map .int), .int a, .int dp, .lst (N.map .str)] (qEx (dr c 90) N 2 a dp).e
inductive R_law_qexpression_d3 : List D → D → Prop where
  | mk (c : Int) (N : List Str) (a dp : Int) (hN : 0 < N.length) (hNl : N.length ≤ 100) (hd : dp ≤ 4) : R_law_qexpression_d3 [.lst ((draws c 90).map .int), .int a, .int dp, .lst (N.map .str)] (qEx (dr c 90) N 3 a dp).e
inductive R_law_qdefinitions : List D → D → Prop where
  | mk (c most dp : Int) (hm : 0 ≤ most ∧ most ≤ 50) (hd : 1 ≤ dp ∧ dp ≤ 4) : R_law_qdefinitions [.int c, .int most, .int dp] (.lst ((qDfs c dp (dr c 90 89 % (most + 1)).toNat).map Df.e))
inductive R_law_qrule : List D → D → Prop where
  | mk (N : List Str) (q m : Int) (h : 2 ≤ N.length) : R_law_qrule [.int q, .int m, .lst (N.map .str)] (ruX (qRu N q m))
inductive R_law_qrules : List D → D → Prop where
  | mk (N : List Str) (c most : Int) (hm : 0 ≤ most ∧ most ≤ 50) (h : 2 ≤ N.length) : R_law_qrules [.int c, .int most, .lst (N.map .str)] (.lst ((qRus N c most).map ruX))
inductive R_law_refused : List D → D → Prop where
  | mk (F : List Df) (Q : List RuX) (s : DkS F Q) (bad : DkBad F Q) : R_law_refused [.lst (F.map Df.e), .lst (Q.map ruX)] (.bl true)
inductive R_law_tower : List D → D → Prop where
  | mk (n : Int) (h : 1 ≤ n ∧ n ≤ 50) : R_law_tower [.int n] (tow (n - 1).toNat).e
inductive R_law_bad_expressions : List D → D → Prop where
  | mk (d : Int) (nm : Str) (h : 0 ≤ d) : R_law_bad_expressions [.int d, .str nm] (.lst ((bxs d nm).map Ex.e))
inductive R_law_bad_rules : List D → D → Prop where
  | mk (d : Int) (h : 0 ≤ d) : R_law_bad_rules [.int d] (.lst ((brs d).map ruX))
abbrev R_law := RLaw
inductive RX_Deck_init : List D → Err → Prop where
  | mk (F : List Df) (Q : List RuX) (s : DkS F Q) (bad : DkBad F Q) : RX_Deck_init [.lst (F.map Df.e), .lst (Q.map ruX)] (errN "InvalidDeck")
def top (i : Nat) : Stmt := PySem.Challenge.pw_reticle_k46_valid_decks.main.body.getD i (.Pass ⟨0, 0, 0, 0⟩)
structure Bt (mg : Str → Option Value) : Prop where
  «all» : mg "all" = none
  «bool» : mg "bool" = none
  «int» : mg "int" = none
  «isinstance» : mg "isinstance" = none
  «len» : mg "len" = none
  «list» : mg "list" = none
  «max» : mg "max" = none
  «range» : mg "range" = none
  «set» : mg "set" = none
  «str» : mg "str" = none
  «tuple» : mg "tuple" = none
structure Kt (K : PySem.W.Frag) (mg : Str → Option Value) : Prop where
  «FROM_ZERO» : Cst K mg "FROM_ZERO" (.tup [.str "apart", .str "cover"])
  «GREATEST_DEPTH» : Cst K mg "GREATEST_DEPTH" (.int 12)
  «GREATEST_NUMBER» : Cst K mg "GREATEST_NUMBER" (.int 1000)
  «LAYERS» : Cst K mg "LAYERS" (.tup [.str "well", .str "active", .str "poly", .str "contact", .str "metal", .str "via", .str "top"])
  «MOST_CHARACTERS» : Cst K mg "MOST_CHARACTERS" (.int 12)
  «MOST_DEFINITIONS» : Cst K mg "MOST_DEFINITIONS" (.int 40)
  «MOST_RULES» : Cst K mg "MOST_RULES" (.int 40)
  «PAIRING» : Cst K mg "PAIRING" (.tup [.str "and", .str "or", .str "minus", .str "odd"])
  «SIZING» : Cst K mg "SIZING" (.tup [.str "grow", .str "shrink", .str "open"])
  «WORDS» : Cst K mg "WORDS" (.tup [.str "and", .str "or", .str "minus", .str "odd", .str "grow", .str "shrink", .str "open", .str "layer", .str "rule"])
structure Lt (K : PySem.W.Frag) (mg : Str → Option Value) : Prop where
  «Deck» : Kl K mg "Deck" ["definitions", "rules"]
structure Zdt (K : PySem.W.Frag) (w : World) (mg : Str → Option Value) : Prop where
  «LAYER_COUNTS» : KdT K w mg "LAYER_COUNTS" lcT
structure Xt (K : PySem.W.Frag) (mg : Str → Option Value) : Prop where
  «InvalidDeck» : Xc K mg "InvalidDeck"
  «m1» : Xm K mg "InvalidDeck" "ReticleError"
  «i1» : Xi K mg "InvalidDeck" "InvalidDeck" true
  «i2» : Xi K mg "InvalidDeck" "InvalidRule" false
  «i3» : Xi K mg "InvalidDeck" "InvalidText" false
section
variable {P : Program} {w : World} {K : PySem.W.Frag} {mg : Str → Option Value} {base : Heap}
abbrev s_is_name : Stmt := top 8
theorem sc_is_name : FnScope ["name", "sign"] ["name"] (defScope s_is_name) := ⟨rfl, rfl, rfl, by decide +kernel, rfl, by decide +kernel, by decide +kernel⟩
theorem ok_is_name {f : Addr} {fd : FuncData} (F : Fun K "is_name" "is_name" s_is_name f fd) (B : Bt mg) (KC : Kt K mg) (KL : Lt K mg) (WD : Zdt K w mg) (XF : Xt K mg)  :
    FnOk P w K mg base CX0 1 f fd ["name"] (spR K R_is_name) := by
  refine fn_ok (k := 0) F sc_is_name (fun ds d h => by cases h; rfl) fun ds d hR cdv A outer s H E hr => ?_
  have nd := sc_is_name.nd
  have hu := hr.units
  rcases hR with ⟨x, hx⟩
  walk_at "en"
  refine ws_cons (ws_if (td_tw (tw_or (td_not (td_chain ed_int (ed_callB (id := "len") (by rfl) B.«len» bb_len (ad_cons (ed_var 0 rfl) ad_nil) (bc_lenS hx)) (ed_const KC.«MOST_CHARACTERS» (by rfl)) (by walk_at "c2") (by walk_at "c2"))) (fun hb2 => (tw_or1 (td_not (TD.eq (td_chain ed_str (ed_ixS (c := x.cps.toList.getD 0 0) (ed_var 0 rfl) ed_int hx (at_first hb2)) ed_str (by walk_at "c2") (by walk_at "c2")) (chA _))))))) (fun hc1 => ?_) (fun hc1 => ?_))
  · skip
    have hf := name_no hc1
    refine ws_cons (ws_ret (ED.eq ed_bl ?_) (Or.inl rfl))
    rw [hf]
  · skip
    have hf := name_yes hc1
    refine ws_nil ?_
    refine ws_cons (ws_ret (ED.eq (ed_callB (id := "all") (by rfl) B.«all» bb_all (ad_cons (ed_lst (eo_map2 [("sign", 1)] (x.cps.toList) (fun c => D.str (sgn c)) (chB) (D.bl) rfl nd (blkOk_by (N := ["name", "sign"]) (sc := defScope s_is_name) (by decide +kernel)) (id_str (ed_var 0 rfl)) (rfl) (fun c hxm => ⟨_, by rfl, fun _ _ _ _ _ => ⟨(dg_name 1 nd), tds_nil, (ed_or (ED.eq (ed_chain ed_str (ed_var 1 rfl) ed_str (by walk_at "c2") (by walk_at "c2")) (show _ = (D.bl (loB c)) from by exact congrArg D.bl (chA c))) (fun hb4 => (ed_one (ED.eq (ed_chain ed_str (ed_var 1 rfl) ed_str (by walk_at "c2") (by walk_at "c2")) (show _ = (D.bl (decide (48 ≤ c) && decide (c ≤ 57))) from by exact congrArg D.bl (ch0 c))))))⟩⟩) (by rw [Array.length_toList]; exact hx))) ad_nil) (bc_all rfl)) ?_) (Or.inl rfl))
    rw [hf]
abbrev s_rule_layers : Stmt := top 13
theorem sc_rule_layers : FnScope ["rule"] ["rule"] (defScope s_rule_layers) := ⟨rfl, rfl, rfl, by decide +kernel, rfl, by decide +kernel, by decide +kernel⟩
theorem ok_rule_layers {f : Addr} {fd : FuncData} (F : Fun K "rule_layers" "rule_layers" s_rule_layers f fd) (B : Bt mg) (KC : Kt K mg) (KL : Lt K mg) (WD : Zdt K w mg) (XF : Xt K mg)  :
    FnOk P w K mg base CX0 1 f fd ["rule"] (spR K R_rule_layers) := by
  refine fn_ok (k := 0) F sc_rule_layers (fun ds d h => by cases h; rfl) fun ds d hR cdv A outer s H E hr => ?_
  have nd := sc_rule_layers.nd
  have hu := hr.units
  rcases hR with ⟨k, ls, ns, f⟩
  have hfl := form_len f
  walk_at "en"
  refine ws_cons (ws_ret (ED.eq (ed_sliceT (ed_var 0 rfl) (some_part ed_int) (some_part (ed_bin ed_int (ed_kdict (WD.«LAYER_COUNTS».get _ (lc_mem f)) (by rfl) (ed_ix (ed_var 0 rfl) ed_int (by walk_at "ix"))) (by walk_at "b2")))) ?_) (Or.inl rfl))
  rw [cut_ls]
abbrev s_rule_numbers : Stmt := top 14
theorem sc_rule_numbers : FnScope ["rule"] ["rule"] (defScope s_rule_numbers) := ⟨rfl, rfl, rfl, by decide +kernel, rfl, by decide +kernel, by decide +kernel⟩
theorem ok_rule_numbers {f : Addr} {fd : FuncData} (F : Fun K "rule_numbers" "rule_numbers" s_rule_numbers f fd) (B : Bt mg) (KC : Kt K mg) (KL : Lt K mg) (WD : Zdt K w mg) (XF : Xt K mg)  :
    FnOk P w K mg base CX0 1 f fd ["rule"] (spR K R_rule_numbers) := by
  refine fn_ok (k := 0) F sc_rule_numbers (fun ds d h => by cases h; rfl) fun ds d hR cdv A outer s H E hr => ?_
  have nd := sc_rule_numbers.nd
  have hu := hr.units
  rcases hR with ⟨k, ls, ns, f⟩
  have hfl := form_len f
  walk_at "en"
  refine ws_cons (ws_ret (ED.eq (ed_sliceT (ed_var 0 rfl) (some_part (ed_bin ed_int (ed_kdict (WD.«LAYER_COUNTS».get _ (lc_mem f)) (by rfl) (ed_ix (ed_var 0 rfl) ed_int (by walk_at "ix"))) (by walk_at "b2"))) no_part) ?_) (Or.inl rfl))
  rw [cut_ns]
abbrev s_is_rule_over : Stmt := top 15
theorem sc_is_rule_over : FnScope ["layers", "rule", "named", "least", "layer", "number"] ["layers", "rule"] (defScope s_is_rule_over) := ⟨rfl, rfl, rfl, by decide +kernel, rfl, by decide +kernel, by decide +kernel⟩
theorem ok_is_rule_over {f : Addr} {fd : FuncData} (F : Fun K "is_rule_over" "is_rule_over" s_is_rule_over f fd) (B : Bt mg) (KC : Kt K mg) (KL : Lt K mg) (WD : Zdt K w mg) (XF : Xt K mg) (G_rule_layers : Fn P w K mg base "rule_layers" 1 R_rule_layers) (G_rule_numbers : Fn P w K mg base "rule_numbers" 1 R_rule_numbers) :
    FnOk P w K mg base CX0 2 f fd ["layers", "rule"] (spR K R_is_rule_over) := by
  refine fn_ok (k := 1) F sc_is_rule_over (fun ds d h => by cases h; rfl) fun ds d hR cdv A outer s H E hr => ?_
  have nd := sc_is_rule_over.nd
  have hu := hr.units
  rcases hR with ⟨L, k, ls, ns, f⟩
  have hfl := form_len f
  walk_at "en"
  refine ws_cons (ws_set 2 nd (ed_call G_rule_layers (hr.mono (by decide)) (by rfl) (ad_cons (ed_var 1 rfl) ad_nil) (by exact .mk _ _ _ f)) ?_)
  walk_at "env"
  refine ws_cons (ws_set 3 nd (ED.eq (ed_ifI (TD.eq (td_cmp (ed_ix (ed_var 1 rfl) ed_int (by walk_at "ix")) (ed_const KC.«FROM_ZERO» (by rfl)) (c2_inStr (ys := ["apart", "cover"]) (.tup _)) (by rfl)) rfl) (fun hc1 => ed_int) (fun hc1 => ed_int)) (show _ = (D.int (least k)) from by rfl)) ?_)
  walk_at "env"
  refine ws_cons (ws_ret (ED.eq (ed_and (ed_callB (id := "all") (by rfl) B.«all» bb_all (ad_cons (ed_lst (eo_map2 [("layer", 4)] (ls) (D.str) (fun l => decide (l ∈ L)) (D.bl) rfl nd (blkOk_by (N := ["layers", "rule", "named", "least", "layer", "number"]) (sc := defScope s_is_rule_over) (by decide +kernel)) (id_tup (ed_var 2 rfl)) (rfl) (fun l hxm => ⟨_, by rfl, fun _ _ _ _ _ => ⟨(dg_name 4 nd), tds_nil, (ed_cmp (ed_var 4 rfl) (ed_var 0 rfl) (c2_inStr (ys := L) (.lst _)) (by rfl))⟩⟩) (by rw [sizeLine_eq]; omega))) ad_nil) (bc_all rfl)) (fun hb5 => (ed_and (ed_cmp (ed_lenSetKT (ks := ls.map fun l => (Sum.inr l : Key)) (by rfl) (by rfl) B.«len» (by rfl) B.«set» (ED.eq (ed_var 2 rfl) (by rw [List.map_map]; rfl)) (by rw [List.length_map]; omega)) (ed_callB (id := "len") (by rfl) B.«len» bb_len (ad_cons (ed_var 2 rfl) ad_nil) (bc_lenT)) (by walk_at "c2")) (fun hb3 => (ed_one (ed_callB (id := "all") (by rfl) B.«all» bb_all (ad_cons (ed_lst (eo_map2 [("number", 5)] (ns) (D.int) (fun n => decide (least k ≤ n) && decide (n ≤ 1000)) (D.bl) rfl nd (blkOk_by (N := ["layers", "rule", "named", "least", "layer", "number"]) (sc := defScope s_is_rule_over) (by decide +kernel)) (id_tup (ed_call G_rule_numbers (hr.mono (by decide)) (by rfl) (ad_cons (ed_var 1 rfl) ad_nil) (by exact .mk _ _ _ f))) (rfl) (fun n hxm => ⟨_, by rfl, fun _ _ _ _ _ => ⟨(dg_name 5 nd), tds_nil, (ed_chain (ed_var 3 rfl) (ed_var 5 rfl) (ed_const KC.«GREATEST_NUMBER» (by rfl)) (by walk_at "c2") (by walk_at "c2"))⟩⟩) (by rw [sizeLine_eq]; omega))) ad_nil) (bc_all rfl))))))) ?_) (Or.inl rfl))
  unfold okRL
  rw [List.length_map]
  simp
abbrev s_parts_of : Stmt := top 23
theorem sc_parts_of : FnScope ["expression"] ["expression"] (defScope s_parts_of) := ⟨rfl, rfl, rfl, by decide +kernel, rfl, by decide +kernel, by decide +kernel⟩
theorem ok_parts_of {f : Addr} {fd : FuncData} (F : Fun K "parts_of" "parts_of" s_parts_of f fd) (B : Bt mg) (KC : Kt K mg) (KL : Lt K mg) (WD : Zdt K w mg) (XF : Xt K mg)  :
    FnOk P w K mg base CX0 1 f fd ["expression"] (spR K R_parts_of) := by
  refine fn_ok (k := 0) F sc_parts_of (fun ds d h => by cases h; rfl) fun ds d hR cdv A outer s H E hr => ?_
  have nd := sc_parts_of.nd
  have hu := hr.units
  rcases hR with ⟨x⟩
  walk_at "en"
  rcases x with n | ⟨o, l, r⟩ | ⟨o, n, y⟩
  · skip
    refine ws_cons (ws_if (TD.eq (td_cmp (ED.eq (d' := .str "layer") (ed_ix (ED.eq (d' := .tup [.str "layer", .str n]) (ed_var 0 rfl) rfl) ed_int IX.t0) rfl) (ed_const KC.«PAIRING» (by rfl)) (c2_inStr (ys := opL4) (.tup _)) (by rfl)) lay_notP) (fun hc1 => ?_) (fun hc1 => ?_))
    · skip
      cases hc1
    · skip
      clear hc1
      refine ws_nil ?_
      refine ws_cons (ws_ret (ED.eq (ed_if (d := .tup []) (TD.eq (td_cmp (ED.eq (d' := .str "layer") (ed_ix (ED.eq (d' := .tup [.str "layer", .str n]) (ed_var 0 rfl) rfl) ed_int IX.t0) rfl) (ed_const KC.«SIZING» (by rfl)) (c2_inStr (ys := opL3) (.tup _)) (by rfl)) lay_notS) (fun h => by cases h) (fun _ => (ED.eq (ed_tup ad_nil) rfl))) ?_) (Or.inl rfl))
      rfl
  · skip
    refine ws_cons (ws_if (TD.eq (td_cmp (ED.eq (d' := .str (opP o)) (ed_ix (ED.eq (d' := .tup [.str (opP o), l.e, r.e]) (ed_var 0 rfl) rfl) ed_int IX.t0) rfl) (ed_const KC.«PAIRING» (by rfl)) (c2_inStr (ys := opL4) (.tup _)) (by rfl)) (opP_in o)) (fun hc2 => ?_) (fun hc2 => ?_))
    · skip
      clear hc2
      refine ws_cons (ws_ret (ED.eq (ED.eq (d' := .tup [l.e, r.e]) (ed_sliceT (ED.eq (d' := .tup [.str (opP o), l.e, r.e]) (ed_var 0 rfl) rfl) (some_part ed_int) no_part) rfl) ?_) (Or.inl rfl))
      rfl
    · skip
      cases hc2
  · skip
    refine ws_cons (ws_if (TD.eq (td_cmp (ED.eq (d' := .str (opS o)) (ed_ix (ED.eq (d' := .tup [.str (opS o), .int n, y.e]) (ed_var 0 rfl) rfl) ed_int IX.t0) rfl) (ed_const KC.«PAIRING» (by rfl)) (c2_inStr (ys := opL4) (.tup _)) (by rfl)) (opS_notP o)) (fun hc3 => ?_) (fun hc3 => ?_))
    · skip
      cases hc3
    · skip
      clear hc3
      refine ws_nil ?_
      refine ws_cons (ws_ret (ED.eq (ed_if (d := .tup [y.e]) (TD.eq (td_cmp (ED.eq (d' := .str (opS o)) (ed_ix (ED.eq (d' := .tup [.str (opS o), .int n, y.e]) (ed_var 0 rfl) rfl) ed_int IX.t0) rfl) (ed_const KC.«SIZING» (by rfl)) (c2_inStr (ys := opL3) (.tup _)) (by rfl)) (opS_in o)) (fun _ => (ED.eq (ed_sliceT (ED.eq (d' := .tup [.str (opS o), .int n, y.e]) (ed_var 0 rfl) rfl) (some_part ed_int) no_part) rfl)) (fun h => by cases h)) ?_) (Or.inl rfl))
      rfl
abbrev s_inner_parts : Stmt := top 24
theorem sc_inner_parts : FnScope ["expressions", "parts", "expression", "part"] ["expressions"] (defScope s_inner_parts) := ⟨rfl, rfl, rfl, by decide +kernel, rfl, by decide +kernel, by decide +kernel⟩
theorem ok_inner_parts {f : Addr} {fd : FuncData} (F : Fun K "inner_parts" "inner_parts" s_inner_parts f fd) (B : Bt mg) (KC : Kt K mg) (KL : Lt K mg) (WD : Zdt K w mg) (XF : Xt K mg) (G_parts_of : Fn P w K mg base "parts_of" 1 R_parts_of) :
    FnOk P w K mg base CX0 2 f fd ["expressions"] (spR K R_inner_parts) := by
  refine fn_ok (k := 1) F sc_inner_parts (fun ds d h => by cases h; rfl) fun ds d hR cdv A outer s H E hr => ?_
  have nd := sc_inner_parts.nd
  have hu := hr.units
  rcases hR with ⟨xs, ok⟩
  have hl4 := ok.l
  walk_at "en"
  refine ws_cons (ws_setO 1 nd (eo_lst ad_nil) ?_)
  walk_at "env"
  refine ws_cons (ws_forU (xs) (Ex.e) rfl (id_list (ed_var 0 rfl)) (by rfl) (U := Sl) (fun i u => [(1, .ow (.lst ((inP (xs.take i)).map Ex.e))), (2, u)]) (fun r => (r.getD 2 .no)) (fun _ => True) (rfl) (True.intro) ?_ ?_)
  · intro i0 x u0 hx0 hP0
    have hx := ok.x x (List.mem_of_getElem? hx0)
    have hi9 := (List.getElem?_eq_some_iff.mp hx0).1
    have hip := inP_len xs i0
    refine ⟨_, _, (dg_name 2 nd), ?_⟩
    walk_at "env"
    refine ws_cons (ws_extendL 1 rfl (eo_filter [("part", 3)] (x.parts) (Ex.e) (fun y => !decide (y ∈ inP (xs.take i0))) (Ex.e) rfl nd (blkOk_by (N := ["expressions", "parts", "expression", "part"]) (sc := defScope s_inner_parts) (by decide +kernel)) (id_tup (ed_call G_parts_of (hr.mono (by decide)) (by rfl) (ad_cons (ed_var 2 rfl) ad_nil) (by exact .mk _))) (rfl) (fun y hxm => turn_if (fun hp1 => ⟨_, by rfl, fun _ _ _ _ _ => ⟨(dg_name 3 nd), tds_one (TD.eq (td_showO 1 rfl (td_cmp (ed_var 3 rfl) (ed_var 1 rfl) (c2_notInC (n := 12) (k := decide (y ∈ inP (xs.take i0))) (rm65 hr) (ex_cm y ((parts_ok hxm).2 hx.2) (by have := (parts_ok hxm).1; omega)) (fun e he => by obtain ⟨z, hz, rfl⟩ := List.mem_map.mp he; obtain ⟨u, hu9, hp9⟩ := inP_mem i0 hz; have h8 := ok.x u hu9; exact ex_cm z ((parts_ok hp9).2 h8.2) (by have := (parts_ok hp9).1; omega)) (by rw [decide_eq_true_iff, List.mem_map]; exact ⟨fun h => ⟨y, h, rfl⟩, fun ⟨z, hz, e⟩ => Ex.inj e ▸ hz⟩)) (by rfl))) hp1), (ed_var 3 rfl)⟩⟩) (fun hp1 => ⟨_, by rfl, fun _ _ _ _ _ => ⟨(dg_name 3 nd), tds_one (TD.eq (td_showO 1 rfl (td_cmp (ed_var 3 rfl) (ed_var 1 rfl) (c2_notInC (n := 12) (k := decide (y ∈ inP (xs.take i0))) (rm65 hr) (ex_cm y ((parts_ok hxm).2 hx.2) (by have := (parts_ok hxm).1; omega)) (fun e he => by obtain ⟨z, hz, rfl⟩ := List.mem_map.mp he; obtain ⟨u, hu9, hp9⟩ := inP_mem i0 hz; have h8 := ok.x u hu9; exact ex_cm z ((parts_ok hp9).2 h8.2) (by have := (parts_ok hp9).1; omega)) (by rw [decide_eq_true_iff, List.mem_map]; exact ⟨fun h => ⟨y, h, rfl⟩, fun ⟨z, hz, e⟩ => Ex.inj e ▸ hz⟩)) (by rfl))) hp1)⟩⟩)) (by rw [sizeLine_eq]; exact Nat.le_trans (parts_len _) (by decide))) (by have h1 := parts_len x; have h2 := List.length_filter_le (fun y => !decide (y ∈ inP (xs.take i0))) x.parts; rw [List.length_map, List.length_map, sizeLine_eq]; omega) ?_ (fun h => ps_expr (pe_bm PySem.F.plainAttrs_list PySem.F.slot_list_extend PySem.F.type_list_extend mt_extend (pv 1) h)))
    walk_at "env"
    refine ws_nil ?_
    refine ⟨?_, True.intro⟩
    rw [inP_snoc hx0, List.map_append]
    rfl
  · intro u0 hP0
    walk_at "env"
    rw [List.take_length]
    refine ws_share 1 rfl ?_
    walk_at "env"
    refine ws_cons (ws_ret (ED.eq (ed_var 1 rfl) ?_) (Or.inl rfl))
    rfl
abbrev s_expression_depth : Stmt := top 25
theorem sc_expression_depth : FnScope ["expression", "depth", "level"] ["expression"] (defScope s_expression_depth) := ⟨rfl, rfl, rfl, by decide +kernel, rfl, by decide +kernel, by decide +kernel⟩
theorem ok_expression_depth {f : Addr} {fd : FuncData} (F : Fun K "expression_depth" "expression_depth" s_expression_depth f fd) (B : Bt mg) (KC : Kt K mg) (KL : Lt K mg) (WD : Zdt K w mg) (XF : Xt K mg) (G_inner_parts : Fn P w K mg base "inner_parts" 2 R_inner_parts) :
    FnOk P w K mg base CX0 3 f fd ["expression"] (spR K R_expression_depth) := by
  refine fn_ok (k := 2) F sc_expression_depth (fun ds d h => by cases h; rfl) fun ds d hR cdv A outer s H E hr => ?_
  have nd := sc_expression_depth.nd
  have hu := hr.units
  rcases hR with ⟨k, hk⟩
  have hend := fun (n : Nat) (h : n < 13) => (lvT_end ⟨k, hk⟩).1 ⟨n, h⟩
  walk_at "en"
  refine ws_cons (ws_set 1 nd ed_int ?_)
  walk_at "env"
  refine ws_cons (ws_setO 2 nd (eo_lst (ad_cons (ed_var 0 rfl) ad_nil)) ?_)
  refine ws_share 2 rfl ?_
  walk_at "env"
  refine ws_cons (ws_whileU (γ := Nat) (U := Unit) (fun g u => [(1, .sh (.int (g : Nat))), (2, .sh (.lst ((lvT k g).map Ex.e)))]) (fun r => ()) (fun g => g ≤ k + 1) (fun g => k + 2 - g) (0) (rfl) (by omega) ?_)
  intro gw0 uw0 hW0
  walk_at "env"
  refine ⟨_, (td_truth (ED.eq (d' := .lst ((lvT k gw0).map Ex.e)) (ed_var 2 rfl) rfl) rfl), fun hw0 => ?_, fun hw0 => ?_⟩
  · skip
    have hlt : gw0 < k + 1 := by
      refine Classical.byContradiction fun z => ?_
      have := (hend gw0 (by omega)).mpr (by dsimp only; omega)
      dsimp only at this
      rw [this] at hw0; cases hw0
    refine ws_cons (ws_aug 1 nd rfl ed_int ?_)
    walk_at "env"
    refine ws_cons (ws_set 2 nd (ed_call G_inner_parts (hr.mono (by decide)) (by rfl) (ad_cons (ed_var 2 rfl) ad_nil) (by exact .mk (lvT k gw0) (lvT_ok hk (by omega)))) ?_)
    walk_at "env"
    refine ws_nil ?_
    exact ⟨gw0 + 1, rfl, by omega, by omega⟩
  · skip
    have hge : gw0 = k + 1 := by
      have h9 : lvT k gw0 = [] := by cases e : lvT k gw0 with
        | nil => rfl
        | cons a t => rw [e] at hw0; cases hw0
      have := (hend gw0 (by omega)).mp h9
      dsimp only at this
      omega
    refine ws_cons (ws_ret (ED.eq (ed_var 1 rfl) ?_) (Or.inl rfl))
    rw [hge]; rfl
abbrev s_is_size : Stmt := top 26
theorem sc_is_size : FnScope ["operation", "n"] ["operation", "n"] (defScope s_is_size) := ⟨rfl, rfl, rfl, by decide +kernel, rfl, by decide +kernel, by decide +kernel⟩
theorem ok_is_size {f : Addr} {fd : FuncData} (F : Fun K "is_size" "is_size" s_is_size f fd) (B : Bt mg) (KC : Kt K mg) (KL : Lt K mg) (WD : Zdt K w mg) (XF : Xt K mg)  :
    FnOk P w K mg base CX0 1 f fd ["operation", "n"] (spR K R_is_size) := by
  refine fn_ok (k := 0) F sc_is_size (fun ds d h => by cases h; rfl) fun ds d hR cdv A outer s H E hr => ?_
  have nd := sc_is_size.nd
  have hu := hr.units
  rcases hR with ⟨o, n⟩
  walk_at "en"
  refine ws_cons (ws_ret (ED.eq (ed_chain (ed_ifI (td_cmp (ed_var 0 rfl) ed_str (by walk_at "c2")) (fun hc1 => ed_int) (fun hc1 => ed_int)) (ed_var 1 rfl) (ed_const KC.«GREATEST_NUMBER» (by rfl)) (by walk_at "c2") (by walk_at "c2")) ?_) (Or.inl rfl))
  unfold szB
  simp
abbrev s_is_expression_over_z0 : Stmt := top 27
theorem sc_is_expression_over_z0 : FnScope ["layers", "expression", "depth", "part"] ["layers", "expression", "depth"] (defScope s_is_expression_over_z0) := ⟨rfl, rfl, rfl, by decide +kernel, rfl, by decide +kernel, by decide +kernel⟩
theorem ok_is_expression_over_z0 {f : Addr} {fd : FuncData} (F : Fun K "is_expression_over" "is_expression_over" s_is_expression_over_z0 f fd) (B : Bt mg) (KC : Kt K mg) (KL : Lt K mg) (WD : Zdt K w mg) (XF : Xt K mg)  :
    FnOk P w K mg base CX0 2 f fd ["layers", "expression", "depth"] (spR K R_is_expression_over_z0) := by
  refine fn_ok (k := 1) F sc_is_expression_over_z0 (fun ds d h => by cases h; rfl) fun ds d hR cdv A outer s H E hr => ?_
  have nd := sc_is_expression_over_z0.nd
  have hu := hr.units
  rcases hR with ⟨L, x, dp, hd⟩
  walk_at "en"
  refine ws_cons (ws_if (td_cmp (ed_var 2 rfl) ed_int (by walk_at "c2")) (fun hc1 => ?_) (fun hc1 => ?_))
  · skip
    have hd1 := of_decide_eq_true hc1
    refine ws_cons (ws_ret (ED.eq ed_bl ?_) (Or.inl rfl))
    rw [okE_no hd1]
  · skip
    have := of_decide_eq_false hc1; omega
abbrev s_is_expression_over_z1 : Stmt := top 27
theorem sc_is_expression_over_z1 : FnScope ["layers", "expression", "depth", "part"] ["layers", "expression", "depth"] (defScope s_is_expression_over_z1) := ⟨rfl, rfl, rfl, by decide +kernel, rfl, by decide +kernel, by decide +kernel⟩
theorem ok_is_expression_over_z1 {f : Addr} {fd : FuncData} (F : Fun K "is_expression_over" "is_expression_over" s_is_expression_over_z1 f fd) (B : Bt mg) (KC : Kt K mg) (KL : Lt K mg) (WD : Zdt K w mg) (XF : Xt K mg) (G_is_expression_over_z0 : Fn P w K mg base "is_expression_over" 2 R_is_expression_over_z0) (G_is_expression_over_z0 : Fn P w K mg base "is_expression_over" 2 R_is_expression_over_z0) (G_is_size : Fn P w K mg base "is_size" 1 R_is_size) (G_parts_of : Fn P w K mg base "parts_of" 1 R_parts_of) :
    FnOk P w K mg base CX0 3 f fd ["layers", "expression", "depth"] (spR K R_is_expression_over_z1) := by
  refine fn_ok (k := 2) F sc_is_expression_over_z1 (fun ds d h => by cases h; rfl) fun ds d hR cdv A outer s H E hr => ?_
  have nd := sc_is_expression_over_z1.nd
  have hu := hr.units
  rcases hR with ⟨L, x, dp, hd⟩
  walk_at "en"
  refine ws_cons (ws_if (td_cmp (ed_var 2 rfl) ed_int (by walk_at "c2")) (fun hc1 => ?_) (fun hc1 => ?_))
  · skip
    have hd1 := of_decide_eq_true hc1
    refine ws_cons (ws_ret (ED.eq ed_bl ?_) (Or.inl rfl))
    rw [okE_no hd1]
  · skip
    have hd1 := of_decide_eq_false hc1
    refine ws_nil ?_
    rcases x with n | ⟨o, l, r⟩ | ⟨o, n, y⟩
    · skip
      refine ws_cons (ws_if (TD.eq (td_cmp (ED.eq (d' := .str "layer") (ed_ix (ED.eq (d' := .tup [.str "layer", .str n]) (ed_var 1 rfl) rfl) ed_int IX.t0) rfl) ed_str c2_eqS (by rfl)) rfl) (fun hc2 => ?_) (fun hc2 => ?_))
      · skip
        clear hc2
        refine ws_cons (ws_ret (ED.eq (ed_cmp (ED.eq (d' := .str n) (ed_ix (ED.eq (d' := .tup [.str "layer", .str n]) (ed_var 1 rfl) rfl) ed_int IX.t1) rfl) (ed_var 0 rfl) (c2_inStr (ys := L) (.lst _)) (by rfl)) ?_) (Or.inl rfl))
        first | (rw [okE_s hd1]; rfl)
      · skip
        cases hc2
    · skip
      refine ws_cons (ws_if (TD.eq (td_cmp (ED.eq (d' := .str (opP o)) (ed_ix (ED.eq (d' := .tup [.str (opP o), l.e, r.e]) (ed_var 1 rfl) rfl) ed_int IX.t0) rfl) ed_str c2_eqS (by rfl)) (opP_lay o)) (fun hc3 => ?_) (fun hc3 => ?_))
      · skip
        cases hc3
      · skip
        clear hc3
        refine ws_nil ?_
        refine ws_cons (ws_if (td_tw (tw_and (k' := true) (TD.eq (td_cmp (ED.eq (d' := .str (opP o)) (ed_ix (ED.eq (d' := .tup [.str (opP o), l.e, r.e]) (ed_var 1 rfl) rfl) ed_int IX.t0) rfl) (ed_const KC.«SIZING» (by rfl)) (c2_inStr (ys := opL3) (.tup _)) (by rfl)) (opP_notS o)) (fun h => by cases h))) (fun hc4 => ?_) (fun hc4 => ?_))
        · skip
          simp at hc4
        · skip
          clear hc4
          refine ws_nil ?_
          refine ws_cons (ws_ret (ED.eq (ed_callB (id := "all") (by rfl) B.«all» bb_all (ad_cons (ed_lst (eo_map2 [("part", 3)] ((Ex.two o l r).parts) (Ex.e) (fun y => okE L (dp - 1).toNat y) (D.bl) rfl nd (blkOk_by (N := ["layers", "expression", "depth", "part"]) (sc := defScope s_is_expression_over_z1) (by decide +kernel)) (id_tup (ed_call G_parts_of (hr.mono (by decide)) (by rfl) (ad_cons (ed_var 1 rfl) ad_nil) (by exact .mk (Ex.two o l r)))) (rfl) (fun y hxm => ⟨_, by rfl, fun _ _ _ _ _ => ⟨(dg_name 3 nd), tds_nil, (ed_call G_is_expression_over_z0 (hr.mono (by decide)) (by rfl) (ad_cons (ed_var 0 rfl) (ad_cons (ed_var 3 rfl) (ad_cons (ed_bin (ed_var 2 rfl) ed_int (by walk_at "b2")) ad_nil))) (by exact .mk L _ (dp - 1) (by omega)))⟩⟩) (by rw [sizeLine_eq]; exact Nat.le_trans (parts_len _) (by decide)))) ad_nil) (bc_all rfl)) ?_) (Or.inl rfl))
          rw [okE_s hd1]
          show D.bl ([okE L (dp - 1).toNat l, okE L (dp - 1).toNat r].all id) = _
          simp [okE]
    · skip
      refine ws_cons (ws_if (TD.eq (td_cmp (ED.eq (d' := .str (opS o)) (ed_ix (ED.eq (d' := .tup [.str (opS o), .int n, y.e]) (ed_var 1 rfl) rfl) ed_int IX.t0) rfl) ed_str c2_eqS (by rfl)) (opS_lay o)) (fun hc6 => ?_) (fun hc6 => ?_))
      · skip
        cases hc6
      · skip
        clear hc6
        refine ws_nil ?_
        refine ws_cons (ws_if (td_tw (tw_and (TD.eq (td_cmp (ED.eq (d' := .str (opS o)) (ed_ix (ED.eq (d' := .tup [.str (opS o), .int n, y.e]) (ed_var 1 rfl) rfl) ed_int IX.t0) rfl) (ed_const KC.«SIZING» (by rfl)) (c2_inStr (ys := opL3) (.tup _)) (by rfl)) (opS_in o)) (fun hb8 => (tw_and1 (td_not (td_truth (ed_call G_is_size (hr.mono (by decide)) (by rfl) (ad_cons (ED.eq (d' := .str (opS o)) (ed_ix (ED.eq (d' := .tup [.str (opS o), .int n, y.e]) (ed_var 1 rfl) rfl) ed_int IX.t0) rfl) (ad_cons (ED.eq (d' := .int n) (ed_ix (ED.eq (d' := .tup [.str (opS o), .int n, y.e]) (ed_var 1 rfl) rfl) ed_int IX.t1) rfl) ad_nil)) (by exact .mk _ _)) rfl)))))) (fun hc7 => ?_) (fun hc7 => ?_))
        · skip
          have hsz : szB (opS o) n = false := by simpa using hc7
          refine ws_cons (ws_ret (ED.eq ed_bl ?_) (Or.inl rfl))
          first | (rw [okE_s hd1]; unfold okE; rw [hsz]; rfl) | (rw [okE_s hd1]; show D.bl ([okE L (dp - 1).toNat y].all id) = _; simp [okE, hsz])
        · skip
          have hsz : szB (opS o) n = true := by simpa using hc7
          refine ws_nil ?_
          refine ws_cons (ws_ret (ED.eq (ed_callB (id := "all") (by rfl) B.«all» bb_all (ad_cons (ed_lst (eo_map2 [("part", 3)] ((Ex.siz o n y).parts) (Ex.e) (fun y => okE L (dp - 1).toNat y) (D.bl) rfl nd (blkOk_by (N := ["layers", "expression", "depth", "part"]) (sc := defScope s_is_expression_over_z1) (by decide +kernel)) (id_tup (ed_call G_parts_of (hr.mono (by decide)) (by rfl) (ad_cons (ed_var 1 rfl) ad_nil) (by exact .mk (Ex.siz o n y)))) (rfl) (fun y hxm => ⟨_, by rfl, fun _ _ _ _ _ => ⟨(dg_name 3 nd), tds_nil, (ed_call G_is_expression_over_z0 (hr.mono (by decide)) (by rfl) (ad_cons (ed_var 0 rfl) (ad_cons (ed_var 3 rfl) (ad_cons (ed_bin (ed_var 2 rfl) ed_int (by walk_at "b2")) ad_nil))) (by exact .mk L _ (dp - 1) (by omega)))⟩⟩) (by rw [sizeLine_eq]; exact Nat.le_trans (parts_len _) (by decide)))) ad_nil) (bc_all rfl)) ?_) (Or.inl rfl))
          first | (rw [okE_s hd1]; unfold okE; rw [hsz]; rfl) | (rw [okE_s hd1]; show D.bl ([okE L (dp - 1).toNat y].all id) = _; simp [okE, hsz])
abbrev s_is_expression_over_z2 : Stmt := top 27
theorem sc_is_expression_over_z2 : FnScope ["layers", "expression", "depth", "part"] ["layers", "expression", "depth"] (defScope s_is_expression_over_z2) := ⟨rfl, rfl, rfl, by decide +kernel, rfl, by decide +kernel, by decide +kernel⟩
theorem ok_is_expression_over_z2 {f : Addr} {fd : FuncData} (F : Fun K "is_expression_over" "is_expression_over" s_is_expression_over_z2 f fd) (B : Bt mg) (KC : Kt K mg) (KL : Lt K mg) (WD : Zdt K w mg) (XF : Xt K mg) (G_is_expression_over_z1 : Fn P w K mg base "is_expression_over" 3 R_is_expression_over_z1) (G_is_expression_over_z1 : Fn P w K mg base "is_expression_over" 3 R_is_expression_over_z1) (G_is_size : Fn P w K mg base "is_size" 1 R_is_size) (G_parts_of : Fn P w K mg base "parts_of" 1 R_parts_of) :
    FnOk P w K mg base CX0 4 f fd ["layers", "expression", "depth"] (spR K R_is_expression_over_z2) := by
  refine fn_ok (k := 3) F sc_is_expression_over_z2 (fun ds d h => by cases h; rfl) fun ds d hR cdv A outer s H E hr => ?_
  have nd := sc_is_expression_over_z2.nd
  have hu := hr.units
  rcases hR with ⟨L, x, dp, hd⟩
  walk_at "en"
  refine ws_cons (ws_if (td_cmp (ed_var 2 rfl) ed_int (by walk_at "c2")) (fun hc1 => ?_) (fun hc1 => ?_))
  · skip
    have hd1 := of_decide_eq_true hc1
    refine ws_cons (ws_ret (ED.eq ed_bl ?_) (Or.inl rfl))
    rw [okE_no hd1]
  · skip
    have hd1 := of_decide_eq_false hc1
    refine ws_nil ?_
    rcases x with n | ⟨o, l, r⟩ | ⟨o, n, y⟩
    · skip
      refine ws_cons (ws_if (TD.eq (td_cmp (ED.eq (d' := .str "layer") (ed_ix (ED.eq (d' := .tup [.str "layer", .str n]) (ed_var 1 rfl) rfl) ed_int IX.t0) rfl) ed_str c2_eqS (by rfl)) rfl) (fun hc2 => ?_) (fun hc2 => ?_))
      · skip
        clear hc2
        refine ws_cons (ws_ret (ED.eq (ed_cmp (ED.eq (d' := .str n) (ed_ix (ED.eq (d' := .tup [.str "layer", .str n]) (ed_var 1 rfl) rfl) ed_int IX.t1) rfl) (ed_var 0 rfl) (c2_inStr (ys := L) (.lst _)) (by rfl)) ?_) (Or.inl rfl))
        first | (rw [okE_s hd1]; rfl)
      · skip
        cases hc2
    · skip
      refine ws_cons (ws_if (TD.eq (td_cmp (ED.eq (d' := .str (opP o)) (ed_ix (ED.eq (d' := .tup [.str (opP o), l.e, r.e]) (ed_var 1 rfl) rfl) ed_int IX.t0) rfl) ed_str c2_eqS (by rfl)) (opP_lay o)) (fun hc3 => ?_) (fun hc3 => ?_))
      · skip
        cases hc3
      · skip
        clear hc3
        refine ws_nil ?_
        refine ws_cons (ws_if (td_tw (tw_and (k' := true) (TD.eq (td_cmp (ED.eq (d' := .str (opP o)) (ed_ix (ED.eq (d' := .tup [.str (opP o), l.e, r.e]) (ed_var 1 rfl) rfl) ed_int IX.t0) rfl) (ed_const KC.«SIZING» (by rfl)) (c2_inStr (ys := opL3) (.tup _)) (by rfl)) (opP_notS o)) (fun h => by cases h))) (fun hc4 => ?_) (fun hc4 => ?_))
        · skip
          simp at hc4
        · skip
          clear hc4
          refine ws_nil ?_
          refine ws_cons (ws_ret (ED.eq (ed_callB (id := "all") (by rfl) B.«all» bb_all (ad_cons (ed_lst (eo_map2 [("part", 3)] ((Ex.two o l r).parts) (Ex.e) (fun y => okE L (dp - 1).toNat y) (D.bl) rfl nd (blkOk_by (N := ["layers", "expression", "depth", "part"]) (sc := defScope s_is_expression_over_z2) (by decide +kernel)) (id_tup (ed_call G_parts_of (hr.mono (by decide)) (by rfl) (ad_cons (ed_var 1 rfl) ad_nil) (by exact .mk (Ex.two o l r)))) (rfl) (fun y hxm => ⟨_, by rfl, fun _ _ _ _ _ => ⟨(dg_name 3 nd), tds_nil, (ed_call G_is_expression_over_z1 (hr.mono (by decide)) (by rfl) (ad_cons (ed_var 0 rfl) (ad_cons (ed_var 3 rfl) (ad_cons (ed_bin (ed_var 2 rfl) ed_int (by walk_at "b2")) ad_nil))) (by exact .mk L _ (dp - 1) (by omega)))⟩⟩) (by rw [sizeLine_eq]; exact Nat.le_trans (parts_len _) (by decide)))) ad_nil) (bc_all rfl)) ?_) (Or.inl rfl))
          rw [okE_s hd1]
          show D.bl ([okE L (dp - 1).toNat l, okE L (dp - 1).toNat r].all id) = _
          simp [okE]
    · skip
      refine ws_cons (ws_if (TD.eq (td_cmp (ED.eq (d' := .str (opS o)) (ed_ix (ED.eq (d' := .tup [.str (opS o), .int n, y.e]) (ed_var 1 rfl) rfl) ed_int IX.t0) rfl) ed_str c2_eqS (by rfl)) (opS_lay o)) (fun hc6 => ?_) (fun hc6 => ?_))
      · skip
        cases hc6
      · skip
        clear hc6
        refine ws_nil ?_
        refine ws_cons (ws_if (td_tw (tw_and (TD.eq (td_cmp (ED.eq (d' := .str (opS o)) (ed_ix (ED.eq (d' := .tup [.str (opS o), .int n, y.e]) (ed_var 1 rfl) rfl) ed_int IX.t0) rfl) (ed_const KC.«SIZING» (by rfl)) (c2_inStr (ys := opL3) (.tup _)) (by rfl)) (opS_in o)) (fun hb8 => (tw_and1 (td_not (td_truth (ed_call G_is_size (hr.mono (by decide)) (by rfl) (ad_cons (ED.eq (d' := .str (opS o)) (ed_ix (ED.eq (d' := .tup [.str (opS o), .int n, y.e]) (ed_var 1 rfl) rfl) ed_int IX.t0) rfl) (ad_cons (ED.eq (d' := .int n) (ed_ix (ED.eq (d' := .tup [.str (opS o), .int n, y.e]) (ed_var 1 rfl) rfl) ed_int IX.t1) rfl) ad_nil)) (by exact .mk _ _)) rfl)))))) (fun hc7 => ?_) (fun hc7 => ?_))
        · skip
          have hsz : szB (opS o) n = false := by simpa using hc7
          refine ws_cons (ws_ret (ED.eq ed_bl ?_) (Or.inl rfl))
          first | (rw [okE_s hd1]; unfold okE; rw [hsz]; rfl) | (rw [okE_s hd1]; show D.bl ([okE L (dp - 1).toNat y].all id) = _; simp [okE, hsz])
        · skip
          have hsz : szB (opS o) n = true := by simpa using hc7
          refine ws_nil ?_
          refine ws_cons (ws_ret (ED.eq (ed_callB (id := "all") (by rfl) B.«all» bb_all (ad_cons (ed_lst (eo_map2 [("part", 3)] ((Ex.siz o n y).parts) (Ex.e) (fun y => okE L (dp - 1).toNat y) (D.bl) rfl nd (blkOk_by (N := ["layers", "expression", "depth", "part"]) (sc := defScope s_is_expression_over_z2) (by decide +kernel)) (id_tup (ed_call G_parts_of (hr.mono (by decide)) (by rfl) (ad_cons (ed_var 1 rfl) ad_nil) (by exact .mk (Ex.siz o n y)))) (rfl) (fun y hxm => ⟨_, by rfl, fun _ _ _ _ _ => ⟨(dg_name 3 nd), tds_nil, (ed_call G_is_expression_over_z1 (hr.mono (by decide)) (by rfl) (ad_cons (ed_var 0 rfl) (ad_cons (ed_var 3 rfl) (ad_cons (ed_bin (ed_var 2 rfl) ed_int (by walk_at "b2")) ad_nil))) (by exact .mk L _ (dp - 1) (by omega)))⟩⟩) (by rw [sizeLine_eq]; exact Nat.le_trans (parts_len _) (by decide)))) ad_nil) (bc_all rfl)) ?_) (Or.inl rfl))
          first | (rw [okE_s hd1]; unfold okE; rw [hsz]; rfl) | (rw [okE_s hd1]; show D.bl ([okE L (dp - 1).toNat y].all id) = _; simp [okE, hsz])
abbrev s_is_expression_over_z3 : Stmt := top 27
theorem sc_is_expression_over_z3 : FnScope ["layers", "expression", "depth", "part"] ["layers", "expression", "depth"] (defScope s_is_expression_over_z3) := ⟨rfl, rfl, rfl, by decide +kernel, rfl, by decide +kernel, by decide +kernel⟩
theorem ok_is_expression_over_z3 {f : Addr} {fd : FuncData} (F : Fun K "is_expression_over" "is_expression_over" s_is_expression_over_z3 f fd) (B : Bt mg) (KC : Kt K mg) (KL : Lt K mg) (WD : Zdt K w mg) (XF : Xt K mg) (G_is_expression_over_z2 : Fn P w K mg base "is_expression_over" 4 R_is_expression_over_z2) (G_is_expression_over_z2 : Fn P w K mg base "is_expression_over" 4 R_is_expression_over_z2) (G_is_size : Fn P w K mg base "is_size" 1 R_is_size) (G_parts_of : Fn P w K mg base "parts_of" 1 R_parts_of) :
    FnOk P w K mg base CX0 5 f fd ["layers", "expression", "depth"] (spR K R_is_expression_over_z3) := by
  refine fn_ok (k := 4) F sc_is_expression_over_z3 (fun ds d h => by cases h; rfl) fun ds d hR cdv A outer s H E hr => ?_
  have nd := sc_is_expression_over_z3.nd
  have hu := hr.units
  rcases hR with ⟨L, x, dp, hd⟩
  walk_at "en"
  refine ws_cons (ws_if (td_cmp (ed_var 2 rfl) ed_int (by walk_at "c2")) (fun hc1 => ?_) (fun hc1 => ?_))
  · skip
    have hd1 := of_decide_eq_true hc1
    refine ws_cons (ws_ret (ED.eq ed_bl ?_) (Or.inl rfl))
    rw [okE_no hd1]
  · skip
    have hd1 := of_decide_eq_false hc1
    refine ws_nil ?_
    rcases x with n | ⟨o, l, r⟩ | ⟨o, n, y⟩
    · skip
      refine ws_cons (ws_if (TD.eq (td_cmp (ED.eq (d' := .str "layer") (ed_ix (ED.eq (d' := .tup [.str "layer", .str n]) (ed_var 1 rfl) rfl) ed_int IX.t0) rfl) ed_str c2_eqS (by rfl)) rfl) (fun hc2 => ?_) (fun hc2 => ?_))
      · skip
        clear hc2
        refine ws_cons (ws_ret (ED.eq (ed_cmp (ED.eq (d' := .str n) (ed_ix (ED.eq (d' := .tup [.str "layer", .str n]) (ed_var 1 rfl) rfl) ed_int IX.t1) rfl) (ed_var 0 rfl) (c2_inStr (ys := L) (.lst _)) (by rfl)) ?_) (Or.inl rfl))
        first | (rw [okE_s hd1]; rfl)
      · skip
        cases hc2
    · skip
      refine ws_cons (ws_if (TD.eq (td_cmp (ED.eq (d' := .str (opP o)) (ed_ix (ED.eq (d' := .tup [.str (opP o), l.e, r.e]) (ed_var 1 rfl) rfl) ed_int IX.t0) rfl) ed_str c2_eqS (by rfl)) (opP_lay o)) (fun hc3 => ?_) (fun hc3 => ?_))
      · skip
        cases hc3
      · skip
        clear hc3
        refine ws_nil ?_
        refine ws_cons (ws_if (td_tw (tw_and (k' := true) (TD.eq (td_cmp (ED.eq (d' := .str (opP o)) (ed_ix (ED.eq (d' := .tup [.str (opP o), l.e, r.e]) (ed_var 1 rfl) rfl) ed_int IX.t0) rfl) (ed_const KC.«SIZING» (by rfl)) (c2_inStr (ys := opL3) (.tup _)) (by rfl)) (opP_notS o)) (fun h => by cases h))) (fun hc4 => ?_) (fun hc4 => ?_))
        · skip
          simp at hc4
        · skip
          clear hc4
          refine ws_nil ?_
          refine ws_cons (ws_ret (ED.eq (ed_callB (id := "all") (by rfl) B.«all» bb_all (ad_cons (ed_lst (eo_map2 [("part", 3)] ((Ex.two o l r).parts) (Ex.e) (fun y => okE L (dp - 1).toNat y) (D.bl) rfl nd (blkOk_by (N := ["layers", "expression", "depth", "part"]) (sc := defScope s_is_expression_over_z3) (by decide +kernel)) (id_tup (ed_call G_parts_of (hr.mono (by decide)) (by rfl) (ad_cons (ed_var 1 rfl) ad_nil) (by exact .mk (Ex.two o l r)))) (rfl) (fun y hxm => ⟨_, by rfl, fun _ _ _ _ _ => ⟨(dg_name 3 nd), tds_nil, (ed_call G_is_expression_over_z2 (hr.mono (by decide)) (by rfl) (ad_cons (ed_var 0 rfl) (ad_cons (ed_var 3 rfl) (ad_cons (ed_bin (ed_var 2 rfl) ed_int (by walk_at "b2")) ad_nil))) (by exact .mk L _ (dp - 1) (by omega)))⟩⟩) (by rw [sizeLine_eq]; exact Nat.le_trans (parts_len _) (by decide)))) ad_nil) (bc_all rfl)) ?_) (Or.inl rfl))
          rw [okE_s hd1]
          show D.bl ([okE L (dp - 1).toNat l, okE L (dp - 1).toNat r].all id) = _
          simp [okE]
    · skip
      refine ws_cons (ws_if (TD.eq (td_cmp (ED.eq (d' := .str (opS o)) (ed_ix (ED.eq (d' := .tup [.str (opS o), .int n, y.e]) (ed_var 1 rfl) rfl) ed_int IX.t0) rfl) ed_str c2_eqS (by rfl)) (opS_lay o)) (fun hc6 => ?_) (fun hc6 => ?_))
      · skip
        cases hc6
      · skip
        clear hc6
        refine ws_nil ?_
        refine ws_cons (ws_if (td_tw (tw_and (TD.eq (td_cmp (ED.eq (d' := .str (opS o)) (ed_ix (ED.eq (d' := .tup [.str (opS o), .int n, y.e]) (ed_var 1 rfl) rfl) ed_int IX.t0) rfl) (ed_const KC.«SIZING» (by rfl)) (c2_inStr (ys := opL3) (.tup _)) (by rfl)) (opS_in o)) (fun hb8 => (tw_and1 (td_not (td_truth (ed_call G_is_size (hr.mono (by decide)) (by rfl) (ad_cons (ED.eq (d' := .str (opS o)) (ed_ix (ED.eq (d' := .tup [.str (opS o), .int n, y.e]) (ed_var 1 rfl) rfl) ed_int IX.t0) rfl) (ad_cons (ED.eq (d' := .int n) (ed_ix (ED.eq (d' := .tup [.str (opS o), .int n, y.e]) (ed_var 1 rfl) rfl) ed_int IX.t1) rfl) ad_nil)) (by exact .mk _ _)) rfl)))))) (fun hc7 => ?_) (fun hc7 => ?_))
        · skip
          have hsz : szB (opS o) n = false := by simpa using hc7
          refine ws_cons (ws_ret (ED.eq ed_bl ?_) (Or.inl rfl))
          first | (rw [okE_s hd1]; unfold okE; rw [hsz]; rfl) | (rw [okE_s hd1]; show D.bl ([okE L (dp - 1).toNat y].all id) = _; simp [okE, hsz])
        · skip
          have hsz : szB (opS o) n = true := by simpa using hc7
          refine ws_nil ?_
          refine ws_cons (ws_ret (ED.eq (ed_callB (id := "all") (by rfl) B.«all» bb_all (ad_cons (ed_lst (eo_map2 [("part", 3)] ((Ex.siz o n y).parts) (Ex.e) (fun y => okE L (dp - 1).toNat y) (D.bl) rfl nd (blkOk_by (N := ["layers", "expression", "depth", "part"]) (sc := defScope s_is_expression_over_z3) (by decide +kernel)) (id_tup (ed_call G_parts_of (hr.mono (by decide)) (by rfl) (ad_cons (ed_var 1 rfl) ad_nil) (by exact .mk (Ex.siz o n y)))) (rfl) (fun y hxm => ⟨_, by rfl, fun _ _ _ _ _ => ⟨(dg_name 3 nd), tds_nil, (ed_call G_is_expression_over_z2 (hr.mono (by decide)) (by rfl) (ad_cons (ed_var 0 rfl) (ad_cons (ed_var 3 rfl) (ad_cons (ed_bin (ed_var 2 rfl) ed_int (by walk_at "b2")) ad_nil))) (by exact .mk L _ (dp - 1) (by omega)))⟩⟩) (by rw [sizeLine_eq]; exact Nat.le_trans (parts_len _) (by decide)))) ad_nil) (bc_all rfl)) ?_) (Or.inl rfl))
          first | (rw [okE_s hd1]; unfold okE; rw [hsz]; rfl) | (rw [okE_s hd1]; show D.bl ([okE L (dp - 1).toNat y].all id) = _; simp [okE, hsz])
abbrev s_is_expression_over_z4 : Stmt := top 27
theorem sc_is_expression_over_z4 : FnScope ["layers", "expression", "depth", "part"] ["layers", "expression", "depth"] (defScope s_is_expression_over_z4) := ⟨rfl, rfl, rfl, by decide +kernel, rfl, by decide +kernel, by decide +kernel⟩
theorem ok_is_expression_over_z4 {f : Addr} {fd : FuncData} (F : Fun K "is_expression_over" "is_expression_over" s_is_expression_over_z4 f fd) (B : Bt mg) (KC : Kt K mg) (KL : Lt K mg) (WD : Zdt K w mg) (XF : Xt K mg) (G_is_expression_over_z3 : Fn P w K mg base "is_expression_over" 5 R_is_expression_over_z3) (G_is_expression_over_z3 : Fn P w K mg base "is_expression_over" 5 R_is_expression_over_z3) (G_is_size : Fn P w K mg base "is_size" 1 R_is_size) (G_parts_of : Fn P w K mg base "parts_of" 1 R_parts_of) :
    FnOk P w K mg base CX0 6 f fd ["layers", "expression", "depth"] (spR K R_is_expression_over_z4) := by
  refine fn_ok (k := 5) F sc_is_expression_over_z4 (fun ds d h => by cases h; rfl) fun ds d hR cdv A outer s H E hr => ?_
  have nd := sc_is_expression_over_z4.nd
  have hu := hr.units
  rcases hR with ⟨L, x, dp, hd⟩
  walk_at "en"
  refine ws_cons (ws_if (td_cmp (ed_var 2 rfl) ed_int (by walk_at "c2")) (fun hc1 => ?_) (fun hc1 => ?_))
  · skip
    have hd1 := of_decide_eq_true hc1
    refine ws_cons (ws_ret (ED.eq ed_bl ?_) (Or.inl rfl))
    rw [okE_no hd1]
  · skip
    have hd1 := of_decide_eq_false hc1
    refine ws_nil ?_
    rcases x with n | ⟨o, l, r⟩ | ⟨o, n, y⟩
    · skip
      refine ws_cons (ws_if (TD.eq (td_cmp (ED.eq (d' := .str "layer") (ed_ix (ED.eq (d' := .tup [.str "layer", .str n]) (ed_var 1 rfl) rfl) ed_int IX.t0) rfl) ed_str c2_eqS (by rfl)) rfl) (fun hc2 => ?_) (fun hc2 => ?_))
      · skip
        clear hc2
        refine ws_cons (ws_ret (ED.eq (ed_cmp (ED.eq (d' := .str n) (ed_ix (ED.eq (d' := .tup [.str "layer", .str n]) (ed_var 1 rfl) rfl) ed_int IX.t1) rfl) (ed_var 0 rfl) (c2_inStr (ys := L) (.lst _)) (by rfl)) ?_) (Or.inl rfl))
        first | (rw [okE_s hd1]; rfl)
      · skip
        cases hc2
    · skip
      refine ws_cons (ws_if (TD.eq (td_cmp (ED.eq (d' := .str (opP o)) (ed_ix (ED.eq (d' := .tup [.str (opP o), l.e, r.e]) (ed_var 1 rfl) rfl) ed_int IX.t0) rfl) ed_str c2_eqS (by rfl)) (opP_lay o)) (fun hc3 => ?_) (fun hc3 => ?_))
      · skip
        cases hc3
      · skip
        clear hc3
        refine ws_nil ?_
        refine ws_cons (ws_if (td_tw (tw_and (k' := true) (TD.eq (td_cmp (ED.eq (d' := .str (opP o)) (ed_ix (ED.eq (d' := .tup [.str (opP o), l.e, r.e]) (ed_var 1 rfl) rfl) ed_int IX.t0) rfl) (ed_const KC.«SIZING» (by rfl)) (c2_inStr (ys := opL3) (.tup _)) (by rfl)) (opP_notS o)) (fun h => by cases h))) (fun hc4 => ?_) (fun hc4 => ?_))
        · skip
          simp at hc4
        · skip
          clear hc4
          refine ws_nil ?_
          refine ws_cons (ws_ret (ED.eq (ed_callB (id := "all") (by rfl) B.«all» bb_all (ad_cons (ed_lst (eo_map2 [("part", 3)] ((Ex.two o l r).parts) (Ex.e) (fun y => okE L (dp - 1).toNat y) (D.bl) rfl nd (blkOk_by (N := ["layers", "expression", "depth", "part"]) (sc := defScope s_is_expression_over_z4) (by decide +kernel)) (id_tup (ed_call G_parts_of (hr.mono (by decide)) (by rfl) (ad_cons (ed_var 1 rfl) ad_nil) (by exact .mk (Ex.two o l r)))) (rfl) (fun y hxm => ⟨_, by rfl, fun _ _ _ _ _ => ⟨(dg_name 3 nd), tds_nil, (ed_call G_is_expression_over_z3 (hr.mono (by decide)) (by rfl) (ad_cons (ed_var 0 rfl) (ad_cons (ed_var 3 rfl) (ad_cons (ed_bin (ed_var 2 rfl) ed_int (by walk_at "b2")) ad_nil))) (by exact .mk L _ (dp - 1) (by omega)))⟩⟩) (by rw [sizeLine_eq]; exact Nat.le_trans (parts_len _) (by decide)))) ad_nil) (bc_all rfl)) ?_) (Or.inl rfl))
          rw [okE_s hd1]
          show D.bl ([okE L (dp - 1).toNat l, okE L (dp - 1).toNat r].all id) = _
          simp [okE]
    · skip
      refine ws_cons (ws_if (TD.eq (td_cmp (ED.eq (d' := .str (opS o)) (ed_ix (ED.eq (d' := .tup [.str (opS o), .int n, y.e]) (ed_var 1 rfl) rfl) ed_int IX.t0) rfl) ed_str c2_eqS (by rfl)) (opS_lay o)) (fun hc6 => ?_) (fun hc6 => ?_))
      · skip
        cases hc6
      · skip
        clear hc6
        refine ws_nil ?_
        refine ws_cons (ws_if (td_tw (tw_and (TD.eq (td_cmp (ED.eq (d' := .str (opS o)) (ed_ix (ED.eq (d' := .tup [.str (opS o), .int n, y.e]) (ed_var 1 rfl) rfl) ed_int IX.t0) rfl) (ed_const KC.«SIZING» (by rfl)) (c2_inStr (ys := opL3) (.tup _)) (by rfl)) (opS_in o)) (fun hb8 => (tw_and1 (td_not (td_truth (ed_call G_is_size (hr.mono (by decide)) (by rfl) (ad_cons (ED.eq (d' := .str (opS o)) (ed_ix (ED.eq (d' := .tup [.str (opS o), .int n, y.e]) (ed_var 1 rfl) rfl) ed_int IX.t0) rfl) (ad_cons (ED.eq (d' := .int n) (ed_ix (ED.eq (d' := .tup [.str (opS o), .int n, y.e]) (ed_var 1 rfl) rfl) ed_int IX.t1) rfl) ad_nil)) (by exact .mk _ _)) rfl)))))) (fun hc7 => ?_) (fun hc7 => ?_))
        · skip
          have hsz : szB (opS o) n = false := by simpa using hc7
          refine ws_cons (ws_ret (ED.eq ed_bl ?_) (Or.inl rfl))
          first | (rw [okE_s hd1]; unfold okE; rw [hsz]; rfl) | (rw [okE_s hd1]; show D.bl ([okE L (dp - 1).toNat y].all id) = _; simp [okE, hsz])
        · skip
          have hsz : szB (opS o) n = true := by simpa using hc7
          refine ws_nil ?_
          refine ws_cons (ws_ret (ED.eq (ed_callB (id := "all") (by rfl) B.«all» bb_all (ad_cons (ed_lst (eo_map2 [("part", 3)] ((Ex.siz o n y).parts) (Ex.e) (fun y => okE L (dp - 1).toNat y) (D.bl) rfl nd (blkOk_by (N := ["layers", "expression", "depth", "part"]) (sc := defScope s_is_expression_over_z4) (by decide +kernel)) (id_tup (ed_call G_parts_of (hr.mono (by decide)) (by rfl) (ad_cons (ed_var 1 rfl) ad_nil) (by exact .mk (Ex.siz o n y)))) (rfl) (fun y hxm => ⟨_, by rfl, fun _ _ _ _ _ => ⟨(dg_name 3 nd), tds_nil, (ed_call G_is_expression_over_z3 (hr.mono (by decide)) (by rfl) (ad_cons (ed_var 0 rfl) (ad_cons (ed_var 3 rfl) (ad_cons (ed_bin (ed_var 2 rfl) ed_int (by walk_at "b2")) ad_nil))) (by exact .mk L _ (dp - 1) (by omega)))⟩⟩) (by rw [sizeLine_eq]; exact Nat.le_trans (parts_len _) (by decide)))) ad_nil) (bc_all rfl)) ?_) (Or.inl rfl))
          first | (rw [okE_s hd1]; unfold okE; rw [hsz]; rfl) | (rw [okE_s hd1]; show D.bl ([okE L (dp - 1).toNat y].all id) = _; simp [okE, hsz])
abbrev s_is_expression_over_z5 : Stmt := top 27
theorem sc_is_expression_over_z5 : FnScope ["layers", "expression", "depth", "part"] ["layers", "expression", "depth"] (defScope s_is_expression_over_z5) := ⟨rfl, rfl, rfl, by decide +kernel, rfl, by decide +kernel, by decide +kernel⟩
theorem ok_is_expression_over_z5 {f : Addr} {fd : FuncData} (F : Fun K "is_expression_over" "is_expression_over" s_is_expression_over_z5 f fd) (B : Bt mg) (KC : Kt K mg) (KL : Lt K mg) (WD : Zdt K w mg) (XF : Xt K mg) (G_is_expression_over_z4 : Fn P w K mg base "is_expression_over" 6 R_is_expression_over_z4) (G_is_expression_over_z4 : Fn P w K mg base "is_expression_over" 6 R_is_expression_over_z4) (G_is_size : Fn P w K mg base "is_size" 1 R_is_size) (G_parts_of : Fn P w K mg base "parts_of" 1 R_parts_of) :
    FnOk P w K mg base CX0 7 f fd ["layers", "expression", "depth"] (spR K R_is_expression_over_z5) := by
  refine fn_ok (k := 6) F sc_is_expression_over_z5 (fun ds d h => by cases h; rfl) fun ds d hR cdv A outer s H E hr => ?_
  have nd := sc_is_expression_over_z5.nd
  have hu := hr.units
  rcases hR with ⟨L, x, dp, hd⟩
  walk_at "en"
  refine ws_cons (ws_if (td_cmp (ed_var 2 rfl) ed_int (by walk_at "c2")) (fun hc1 => ?_) (fun hc1 => ?_))
  · skip
    have hd1 := of_decide_eq_true hc1
    refine ws_cons (ws_ret (ED.eq ed_bl ?_) (Or.inl rfl))
    rw [okE_no hd1]
  · skip
    have hd1 := of_decide_eq_false hc1
    refine ws_nil ?_
    rcases x with n | ⟨o, l, r⟩ | ⟨o, n, y⟩
    · skip
      refine ws_cons (ws_if (TD.eq (td_cmp (ED.eq (d' := .str "layer") (ed_ix (ED.eq (d' := .tup [.str "layer", .str n]) (ed_var 1 rfl) rfl) ed_int IX.t0) rfl) ed_str c2_eqS (by rfl)) rfl) (fun hc2 => ?_) (fun hc2 => ?_))
      · skip
        clear hc2
        refine ws_cons (ws_ret (ED.eq (ed_cmp (ED.eq (d' := .str n) (ed_ix (ED.eq (d' := .tup [.str "layer", .str n]) (ed_var 1 rfl) rfl) ed_int IX.t1) rfl) (ed_var 0 rfl) (c2_inStr (ys := L) (.lst _)) (by rfl)) ?_) (Or.inl rfl))
        first | (rw [okE_s hd1]; rfl)
      · skip
        cases hc2
    · skip
      refine ws_cons (ws_if (TD.eq (td_cmp (ED.eq (d' := .str (opP o)) (ed_ix (ED.eq (d' := .tup [.str (opP o), l.e, r.e]) (ed_var 1 rfl) rfl) ed_int IX.t0) rfl) ed_str c2_eqS (by rfl)) (opP_lay o)) (fun hc3 => ?_) (fun hc3 => ?_))
      · skip
        cases hc3
      · skip
        clear hc3
        refine ws_nil ?_
        refine ws_cons (ws_if (td_tw (tw_and (k' := true) (TD.eq (td_cmp (ED.eq (d' := .str (opP o)) (ed_ix (ED.eq (d' := .tup [.str (opP o), l.e, r.e]) (ed_var 1 rfl) rfl) ed_int IX.t0) rfl) (ed_const KC.«SIZING» (by rfl)) (c2_inStr (ys := opL3) (.tup _)) (by rfl)) (opP_notS o)) (fun h => by cases h))) (fun hc4 => ?_) (fun hc4 => ?_))
        · skip
          simp at hc4
        · skip
          clear hc4
          refine ws_nil ?_
          refine ws_cons (ws_ret (ED.eq (ed_callB (id := "all") (by rfl) B.«all» bb_all (ad_cons (ed_lst (eo_map2 [("part", 3)] ((Ex.two o l r).parts) (Ex.e) (fun y => okE L (dp - 1).toNat y) (D.bl) rfl nd (blkOk_by (N := ["layers", "expression", "depth", "part"]) (sc := defScope s_is_expression_over_z5) (by decide +kernel)) (id_tup (ed_call G_parts_of (hr.mono (by decide)) (by rfl) (ad_cons (ed_var 1 rfl) ad_nil) (by exact .mk (Ex.two o l r)))) (rfl) (fun y hxm => ⟨_, by rfl, fun _ _ _ _ _ => ⟨(dg_name 3 nd), tds_nil, (ed_call G_is_expression_over_z4 (hr.mono (by decide)) (by rfl) (ad_cons (ed_var 0 rfl) (ad_cons (ed_var 3 rfl) (ad_cons (ed_bin (ed_var 2 rfl) ed_int (by walk_at "b2")) ad_nil))) (by exact .mk L _ (dp - 1) (by omega)))⟩⟩) (by rw [sizeLine_eq]; exact Nat.le_trans (parts_len _) (by decide)))) ad_nil) (bc_all rfl)) ?_) (Or.inl rfl))
          rw [okE_s hd1]
          show D.bl ([okE L (dp - 1).toNat l, okE L (dp - 1).toNat r].all id) = _
          simp [okE]
    · skip
      refine ws_cons (ws_if (TD.eq (td_cmp (ED.eq (d' := .str (opS o)) (ed_ix (ED.eq (d' := .tup [.str (opS o), .int n, y.e]) (ed_var 1 rfl) rfl) ed_int IX.t0) rfl) ed_str c2_eqS (by rfl)) (opS_lay o)) (fun hc6 => ?_) (fun hc6 => ?_))
      · skip
        cases hc6
      · skip
        clear hc6
        refine ws_nil ?_
        refine ws_cons (ws_if (td_tw (tw_and (TD.eq (td_cmp (ED.eq (d' := .str (opS o)) (ed_ix (ED.eq (d' := .tup [.str (opS o), .int n, y.e]) (ed_var 1 rfl) rfl) ed_int IX.t0) rfl) (ed_const KC.«SIZING» (by rfl)) (c2_inStr (ys := opL3) (.tup _)) (by rfl)) (opS_in o)) (fun hb8 => (tw_and1 (td_not (td_truth (ed_call G_is_size (hr.mono (by decide)) (by rfl) (ad_cons (ED.eq (d' := .str (opS o)) (ed_ix (ED.eq (d' := .tup [.str (opS o), .int n, y.e]) (ed_var 1 rfl) rfl) ed_int IX.t0) rfl) (ad_cons (ED.eq (d' := .int n) (ed_ix (ED.eq (d' := .tup [.str (opS o), .int n, y.e]) (ed_var 1 rfl) rfl) ed_int IX.t1) rfl) ad_nil)) (by exact .mk _ _)) rfl)))))) (fun hc7 => ?_) (fun hc7 => ?_))
        · skip
          have hsz : szB (opS o) n = false := by simpa using hc7
          refine ws_cons (ws_ret (ED.eq ed_bl ?_) (Or.inl rfl))
          first | (rw [okE_s hd1]; unfold okE; rw [hsz]; rfl) | (rw [okE_s hd1]; show D.bl ([okE L (dp - 1).toNat y].all id) = _; simp [okE, hsz])
        · skip
          have hsz : szB (opS o) n = true := by simpa using hc7
          refine ws_nil ?_
          refine ws_cons (ws_ret (ED.eq (ed_callB (id := "all") (by rfl) B.«all» bb_all (ad_cons (ed_lst (eo_map2 [("part", 3)] ((Ex.siz o n y).parts) (Ex.e) (fun y => okE L (dp - 1).toNat y) (D.bl) rfl nd (blkOk_by (N := ["layers", "expression", "depth", "part"]) (sc := defScope s_is_expression_over_z5) (by decide +kernel)) (id_tup (ed_call G_parts_of (hr.mono (by decide)) (by rfl) (ad_cons (ed_var 1 rfl) ad_nil) (by exact .mk (Ex.siz o n y)))) (rfl) (fun y hxm => ⟨_, by rfl, fun _ _ _ _ _ => ⟨(dg_name 3 nd), tds_nil, (ed_call G_is_expression_over_z4 (hr.mono (by decide)) (by rfl) (ad_cons (ed_var 0 rfl) (ad_cons (ed_var 3 rfl) (ad_cons (ed_bin (ed_var 2 rfl) ed_int (by walk_at "b2")) ad_nil))) (by exact .mk L _ (dp - 1) (by omega)))⟩⟩) (by rw [sizeLine_eq]; exact Nat.le_trans (parts_len _) (by decide)))) ad_nil) (bc_all rfl)) ?_) (Or.inl rfl))
          first | (rw [okE_s hd1]; unfold okE; rw [hsz]; rfl) | (rw [okE_s hd1]; show D.bl ([okE L (dp - 1).toNat y].all id) = _; simp [okE, hsz])
abbrev s_is_expression_over_z6 : Stmt := top 27
theorem sc_is_expression_over_z6 : FnScope ["layers", "expression", "depth", "part"] ["layers", "expression", "depth"] (defScope s_is_expression_over_z6) := ⟨rfl, rfl, rfl, by decide +kernel, rfl, by decide +kernel, by decide +kernel⟩
theorem ok_is_expression_over_z6 {f : Addr} {fd : FuncData} (F : Fun K "is_expression_over" "is_expression_over" s_is_expression_over_z6 f fd) (B : Bt mg) (KC : Kt K mg) (KL : Lt K mg) (WD : Zdt K w mg) (XF : Xt K mg) (G_is_expression_over_z5 : Fn P w K mg base "is_expression_over" 7 R_is_expression_over_z5) (G_is_expression_over_z5 : Fn P w K mg base "is_expression_over" 7 R_is_expression_over_z5) (G_is_size : Fn P w K mg base "is_size" 1 R_is_size) (G_parts_of : Fn P w K mg base "parts_of" 1 R_parts_of) :
    FnOk P w K mg base CX0 8 f fd ["layers", "expression", "depth"] (spR K R_is_expression_over_z6) := by
  refine fn_ok (k := 7) F sc_is_expression_over_z6 (fun ds d h => by cases h; rfl) fun ds d hR cdv A outer s H E hr => ?_
  have nd := sc_is_expression_over_z6.nd
  have hu := hr.units
  rcases hR with ⟨L, x, dp, hd⟩
  walk_at "en"
  refine ws_cons (ws_if (td_cmp (ed_var 2 rfl) ed_int (by walk_at "c2")) (fun hc1 => ?_) (fun hc1 => ?_))
  · skip
    have hd1 := of_decide_eq_true hc1
    refine ws_cons (ws_ret (ED.eq ed_bl ?_) (Or.inl rfl))
    rw [okE_no hd1]
  · skip
    have hd1 := of_decide_eq_false hc1
    refine ws_nil ?_
    rcases x with n | ⟨o, l, r⟩ | ⟨o, n, y⟩
    · skip
      refine ws_cons (ws_if (TD.eq (td_cmp (ED.eq (d' := .str "layer") (ed_ix (ED.eq (d' := .tup [.str "layer", .str n]) (ed_var 1 rfl) rfl) ed_int IX.t0) rfl) ed_str c2_eqS (by rfl)) rfl) (fun hc2 => ?_) (fun hc2 => ?_))
      · skip
        clear hc2
        refine ws_cons (ws_ret (ED.eq (ed_cmp (ED.eq (d' := .str n) (ed_ix (ED.eq (d' := .tup [.str "layer", .str n]) (ed_var 1 rfl) rfl) ed_int IX.t1) rfl) (ed_var 0 rfl) (c2_inStr (ys := L) (.lst _)) (by rfl)) ?_) (Or.inl rfl))
        first | (rw [okE_s hd1]; rfl)
      · skip
        cases hc2
    · skip
      refine ws_cons (ws_if (TD.eq (td_cmp (ED.eq (d' := .str (opP o)) (ed_ix (ED.eq (d' := .tup [.str (opP o), l.e, r.e]) (ed_var 1 rfl) rfl) ed_int IX.t0) rfl) ed_str c2_eqS (by rfl)) (opP_lay o)) (fun hc3 => ?_) (fun hc3 => ?_))
      · skip
        cases hc3
      · skip
        clear hc3
        refine ws_nil ?_
        refine ws_cons (ws_if (td_tw (tw_and (k' := true) (TD.eq (td_cmp (ED.eq (d' := .str (opP o)) (ed_ix (ED.eq (d' := .tup [.str (opP o), l.e, r.e]) (ed_var 1 rfl) rfl) ed_int IX.t0) rfl) (ed_const KC.«SIZING» (by rfl)) (c2_inStr (ys := opL3) (.tup _)) (by rfl)) (opP_notS o)) (fun h => by cases h))) (fun hc4 => ?_) (fun hc4 => ?_))
        · skip
          simp at hc4
        · skip
          clear hc4
          refine ws_nil ?_
          refine ws_cons (ws_ret (ED.eq (ed_callB (id := "all") (by rfl) B.«all» bb_all (ad_cons (ed_lst (eo_map2 [("part", 3)] ((Ex.two o l r).parts) (Ex.e) (fun y => okE L (dp - 1).toNat y) (D.bl) rfl nd (blkOk_by (N := ["layers", "expression", "depth", "part"]) (sc := defScope s_is_expression_over_z6) (by decide +kernel)) (id_tup (ed_call G_parts_of (hr.mono (by decide)) (by rfl) (ad_cons (ed_var 1 rfl) ad_nil) (by exact .mk (Ex.two o l r)))) (rfl) (fun y hxm => ⟨_, by rfl, fun _ _ _ _ _ => ⟨(dg_name 3 nd), tds_nil, (ed_call G_is_expression_over_z5 (hr.mono (by decide)) (by rfl) (ad_cons (ed_var 0 rfl) (ad_cons (ed_var 3 rfl) (ad_cons (ed_bin (ed_var 2 rfl) ed_int (by walk_at "b2")) ad_nil))) (by exact .mk L _ (dp - 1) (by omega)))⟩⟩) (by rw [sizeLine_eq]; exact Nat.le_trans (parts_len _) (by decide)))) ad_nil) (bc_all rfl)) ?_) (Or.inl rfl))
          rw [okE_s hd1]
          show D.bl ([okE L (dp - 1).toNat l, okE L (dp - 1).toNat r].all id) = _
          simp [okE]
    · skip
      refine ws_cons (ws_if (TD.eq (td_cmp (ED.eq (d' := .str (opS o)) (ed_ix (ED.eq (d' := .tup [.str (opS o), .int n, y.e]) (ed_var 1 rfl) rfl) ed_int IX.t0) rfl) ed_str c2_eqS (by rfl)) (opS_lay o)) (fun hc6 => ?_) (fun hc6 => ?_))
      · skip
        cases hc6
      · skip
        clear hc6
        refine ws_nil ?_
        refine ws_cons (ws_if (td_tw (tw_and (TD.eq (td_cmp (ED.eq (d' := .str (opS o)) (ed_ix (ED.eq (d' := .tup [.str (opS o), .int n, y.e]) (ed_var 1 rfl) rfl) ed_int IX.t0) rfl) (ed_const KC.«SIZING» (by rfl)) (c2_inStr (ys := opL3) (.tup _)) (by rfl)) (opS_in o)) (fun hb8 => (tw_and1 (td_not (td_truth (ed_call G_is_size (hr.mono (by decide)) (by rfl) (ad_cons (ED.eq (d' := .str (opS o)) (ed_ix (ED.eq (d' := .tup [.str (opS o), .int n, y.e]) (ed_var 1 rfl) rfl) ed_int IX.t0) rfl) (ad_cons (ED.eq (d' := .int n) (ed_ix (ED.eq (d' := .tup [.str (opS o), .int n, y.e]) (ed_var 1 rfl) rfl) ed_int IX.t1) rfl) ad_nil)) (by exact .mk _ _)) rfl)))))) (fun hc7 => ?_) (fun hc7 => ?_))
        · skip
          have hsz : szB (opS o) n = false := by simpa using hc7
          refine ws_cons (ws_ret (ED.eq ed_bl ?_) (Or.inl rfl))
          first | (rw [okE_s hd1]; unfold okE; rw [hsz]; rfl) | (rw [okE_s hd1]; show D.bl ([okE L (dp - 1).toNat y].all id) = _; simp [okE, hsz])
        · skip
          have hsz : szB (opS o) n = true := by simpa using hc7
          refine ws_nil ?_
          refine ws_cons (ws_ret (ED.eq (ed_callB (id := "all") (by rfl) B.«all» bb_all (ad_cons (ed_lst (eo_map2 [("part", 3)] ((Ex.siz o n y).parts) (Ex.e) (fun y => okE L (dp - 1).toNat y) (D.bl) rfl nd (blkOk_by (N := ["layers", "expression", "depth", "part"]) (sc := defScope s_is_expression_over_z6) (by decide +kernel)) (id_tup (ed_call G_parts_of (hr.mono (by decide)) (by rfl) (ad_cons (ed_var 1 rfl) ad_nil) (by exact .mk (Ex.siz o n y)))) (rfl) (fun y hxm => ⟨_, by rfl, fun _ _ _ _ _ => ⟨(dg_name 3 nd), tds_nil, (ed_call G_is_expression_over_z5 (hr.mono (by decide)) (by rfl) (ad_cons (ed_var 0 rfl) (ad_cons (ed_var 3 rfl) (ad_cons (ed_bin (ed_var 2 rfl) ed_int (by walk_at "b2")) ad_nil))) (by exact .mk L _ (dp - 1) (by omega)))⟩⟩) (by rw [sizeLine_eq]; exact Nat.le_trans (parts_len _) (by decide)))) ad_nil) (bc_all rfl)) ?_) (Or.inl rfl))
          first | (rw [okE_s hd1]; unfold okE; rw [hsz]; rfl) | (rw [okE_s hd1]; show D.bl ([okE L (dp - 1).toNat y].all id) = _; simp [okE, hsz])
abbrev s_is_expression_over_z7 : Stmt := top 27
theorem sc_is_expression_over_z7 : FnScope ["layers", "expression", "depth", "part"] ["layers", "expression", "depth"] (defScope s_is_expression_over_z7) := ⟨rfl, rfl, rfl, by decide +kernel, rfl, by decide +kernel, by decide +kernel⟩
theorem ok_is_expression_over_z7 {f : Addr} {fd : FuncData} (F : Fun K "is_expression_over" "is_expression_over" s_is_expression_over_z7 f fd) (B : Bt mg) (KC : Kt K mg) (KL : Lt K mg) (WD : Zdt K w mg) (XF : Xt K mg) (G_is_expression_over_z6 : Fn P w K mg base "is_expression_over" 8 R_is_expression_over_z6) (G_is_expression_over_z6 : Fn P w K mg base "is_expression_over" 8 R_is_expression_over_z6) (G_is_size : Fn P w K mg base "is_size" 1 R_is_size) (G_parts_of : Fn P w K mg base "parts_of" 1 R_parts_of) :
    FnOk P w K mg base CX0 9 f fd ["layers", "expression", "depth"] (spR K R_is_expression_over_z7) := by
  refine fn_ok (k := 8) F sc_is_expression_over_z7 (fun ds d h => by cases h; rfl) fun ds d hR cdv A outer s H E hr => ?_
  have nd := sc_is_expression_over_z7.nd
  have hu := hr.units
  rcases hR with ⟨L, x, dp, hd⟩
  walk_at "en"
  refine ws_cons (ws_if (td_cmp (ed_var 2 rfl) ed_int (by walk_at "c2")) (fun hc1 => ?_) (fun hc1 => ?_))
  · skip
    have hd1 := of_decide_eq_true hc1
    refine ws_cons (ws_ret (ED.eq ed_bl ?_) (Or.inl rfl))
    rw [okE_no hd1]
  · skip
    have hd1 := of_decide_eq_false hc1
    refine ws_nil ?_
    rcases x with n | ⟨o, l, r⟩ | ⟨o, n, y⟩
    · skip
      refine ws_cons (ws_if (TD.eq (td_cmp (ED.eq (d' := .str "layer") (ed_ix (ED.eq (d' := .tup [.str "layer", .str n]) (ed_var 1 rfl) rfl) ed_int IX.t0) rfl) ed_str c2_eqS (by rfl)) rfl) (fun hc2 => ?_) (fun hc2 => ?_))
      · skip
        clear hc2
        refine ws_cons (ws_ret (ED.eq (ed_cmp (ED.eq (d' := .str n) (ed_ix (ED.eq (d' := .tup [.str "layer", .str n]) (ed_var 1 rfl) rfl) ed_int IX.t1) rfl) (ed_var 0 rfl) (c2_inStr (ys := L) (.lst _)) (by rfl)) ?_) (Or.inl rfl))
        first | (rw [okE_s hd1]; rfl)
      · skip
        cases hc2
    · skip
      refine ws_cons (ws_if (TD.eq (td_cmp (ED.eq (d' := .str (opP o)) (ed_ix (ED.eq (d' := .tup [.str (opP o), l.e, r.e]) (ed_var 1 rfl) rfl) ed_int IX.t0) rfl) ed_str c2_eqS (by rfl)) (opP_lay o)) (fun hc3 => ?_) (fun hc3 => ?_))
      · skip
        cases hc3
      · skip
        clear hc3
        refine ws_nil ?_
        refine ws_cons (ws_if (td_tw (tw_and (k' := true) (TD.eq (td_cmp (ED.eq (d' := .str (opP o)) (ed_ix (ED.eq (d' := .tup [.str (opP o), l.e, r.e]) (ed_var 1 rfl) rfl) ed_int IX.t0) rfl) (ed_const KC.«SIZING» (by rfl)) (c2_inStr (ys := opL3) (.tup _)) (by rfl)) (opP_notS o)) (fun h => by cases h))) (fun hc4 => ?_) (fun hc4 => ?_))
        · skip
          simp at hc4
        · skip
          clear hc4
          refine ws_nil ?_
          refine ws_cons (ws_ret (ED.eq (ed_callB (id := "all") (by rfl) B.«all» bb_all (ad_cons (ed_lst (eo_map2 [("part", 3)] ((Ex.two o l r).parts) (Ex.e) (fun y => okE L (dp - 1).toNat y) (D.bl) rfl nd (blkOk_by (N := ["layers", "expression", "depth", "part"]) (sc := defScope s_is_expression_over_z7) (by decide +kernel)) (id_tup (ed_call G_parts_of (hr.mono (by decide)) (by rfl) (ad_cons (ed_var 1 rfl) ad_nil) (by exact .mk (Ex.two o l r)))) (rfl) (fun y hxm => ⟨_, by rfl, fun _ _ _ _ _ => ⟨(dg_name 3 nd), tds_nil, (ed_call G_is_expression_over_z6 (hr.mono (by decide)) (by rfl) (ad_cons (ed_var 0 rfl) (ad_cons (ed_var 3 rfl) (ad_cons (ed_bin (ed_var 2 rfl) ed_int (by walk_at "b2")) ad_nil))) (by exact .mk L _ (dp - 1) (by omega)))⟩⟩) (by rw [sizeLine_eq]; exact Nat.le_trans (parts_len _) (by decide)))) ad_nil) (bc_all rfl)) ?_) (Or.inl rfl))
          rw [okE_s hd1]
          show D.bl ([okE L (dp - 1).toNat l, okE L (dp - 1).toNat r].all id) = _
          simp [okE]
    · skip
      refine ws_cons (ws_if (TD.eq (td_cmp (ED.eq (d' := .str (opS o)) (ed_ix (ED.eq (d' := .tup [.str (opS o), .int n, y.e]) (ed_var 1 rfl) rfl) ed_int IX.t0) rfl) ed_str c2_eqS (by rfl)) (opS_lay o)) (fun hc6 => ?_) (fun hc6 => ?_))
      · skip
        cases hc6
      · skip
        clear hc6
        refine ws_nil ?_
        refine ws_cons (ws_if (td_tw (tw_and (TD.eq (td_cmp (ED.eq (d' := .str (opS o)) (ed_ix (ED.eq (d' := .tup [.str (opS o), .int n, y.e]) (ed_var 1 rfl) rfl) ed_int IX.t0) rfl) (ed_const KC.«SIZING» (by rfl)) (c2_inStr (ys := opL3) (.tup _)) (by rfl)) (opS_in o)) (fun hb8 => (tw_and1 (td_not (td_truth (ed_call G_is_size (hr.mono (by decide)) (by rfl) (ad_cons (ED.eq (d' := .str (opS o)) (ed_ix (ED.eq (d' := .tup [.str (opS o), .int n, y.e]) (ed_var 1 rfl) rfl) ed_int IX.t0) rfl) (ad_cons (ED.eq (d' := .int n) (ed_ix (ED.eq (d' := .tup [.str (opS o), .int n, y.e]) (ed_var 1 rfl) rfl) ed_int IX.t1) rfl) ad_nil)) (by exact .mk _ _)) rfl)))))) (fun hc7 => ?_) (fun hc7 => ?_))
        · skip
          have hsz : szB (opS o) n = false := by simpa using hc7
          refine ws_cons (ws_ret (ED.eq ed_bl ?_) (Or.inl rfl))
          first | (rw [okE_s hd1]; unfold okE; rw [hsz]; rfl) | (rw [okE_s hd1]; show D.bl ([okE L (dp - 1).toNat y].all id) = _; simp [okE, hsz])
        · skip
          have hsz : szB (opS o) n = true := by simpa using hc7
          refine ws_nil ?_
          refine ws_cons (ws_ret (ED.eq (ed_callB (id := "all") (by rfl) B.«all» bb_all (ad_cons (ed_lst (eo_map2 [("part", 3)] ((Ex.siz o n y).parts) (Ex.e) (fun y => okE L (dp - 1).toNat y) (D.bl) rfl nd (blkOk_by (N := ["layers", "expression", "depth", "part"]) (sc := defScope s_is_expression_over_z7) (by decide +kernel)) (id_tup (ed_call G_parts_of (hr.mono (by decide)) (by rfl) (ad_cons (ed_var 1 rfl) ad_nil) (by exact .mk (Ex.siz o n y)))) (rfl) (fun y hxm => ⟨_, by rfl, fun _ _ _ _ _ => ⟨(dg_name 3 nd), tds_nil, (ed_call G_is_expression_over_z6 (hr.mono (by decide)) (by rfl) (ad_cons (ed_var 0 rfl) (ad_cons (ed_var 3 rfl) (ad_cons (ed_bin (ed_var 2 rfl) ed_int (by walk_at "b2")) ad_nil))) (by exact .mk L _ (dp - 1) (by omega)))⟩⟩) (by rw [sizeLine_eq]; exact Nat.le_trans (parts_len _) (by decide)))) ad_nil) (bc_all rfl)) ?_) (Or.inl rfl))
          first | (rw [okE_s hd1]; unfold okE; rw [hsz]; rfl) | (rw [okE_s hd1]; show D.bl ([okE L (dp - 1).toNat y].all id) = _; simp [okE, hsz])
abbrev s_is_expression_over_z8 : Stmt := top 27
theorem sc_is_expression_over_z8 : FnScope ["layers", "expression", "depth", "part"] ["layers", "expression", "depth"] (defScope s_is_expression_over_z8) := ⟨rfl, rfl, rfl, by decide +kernel, rfl, by decide +kernel, by decide +kernel⟩
theorem ok_is_expression_over_z8 {f : Addr} {fd : FuncData} (F : Fun K "is_expression_over" "is_expression_over" s_is_expression_over_z8 f fd) (B : Bt mg) (KC : Kt K mg) (KL : Lt K mg) (WD : Zdt K w mg) (XF : Xt K mg) (G_is_expression_over_z7 : Fn P w K mg base "is_expression_over" 9 R_is_expression_over_z7) (G_is_expression_over_z7 : Fn P w K mg base "is_expression_over" 9 R_is_expression_over_z7) (G_is_size : Fn P w K mg base "is_size" 1 R_is_size) (G_parts_of : Fn P w K mg base "parts_of" 1 R_parts_of) :
    FnOk P w K mg base CX0 10 f fd ["layers", "expression", "depth"] (spR K R_is_expression_over_z8) := by
  refine fn_ok (k := 9) F sc_is_expression_over_z8 (fun ds d h => by cases h; rfl) fun ds d hR cdv A outer s H E hr => ?_
  have nd := sc_is_expression_over_z8.nd
  have hu := hr.units
  rcases hR with ⟨L, x, dp, hd⟩
  walk_at "en"
  refine ws_cons (ws_if (td_cmp (ed_var 2 rfl) ed_int (by walk_at "c2")) (fun hc1 => ?_) (fun hc1 => ?_))
  · skip
    have hd1 := of_decide_eq_true hc1
    refine ws_cons (ws_ret (ED.eq ed_bl ?_) (Or.inl rfl))
    rw [okE_no hd1]
  · skip
    have hd1 := of_decide_eq_false hc1
    refine ws_nil ?_
    rcases x with n | ⟨o, l, r⟩ | ⟨o, n, y⟩
    · skip
      refine ws_cons (ws_if (TD.eq (td_cmp (ED.eq (d' := .str "layer") (ed_ix (ED.eq (d' := .tup [.str "layer", .str n]) (ed_var 1 rfl) rfl) ed_int IX.t0) rfl) ed_str c2_eqS (by rfl)) rfl) (fun hc2 => ?_) (fun hc2 => ?_))
      · skip
        clear hc2
        refine ws_cons (ws_ret (ED.eq (ed_cmp (ED.eq (d' := .str n) (ed_ix (ED.eq (d' := .tup [.str "layer", .str n]) (ed_var 1 rfl) rfl) ed_int IX.t1) rfl) (ed_var 0 rfl) (c2_inStr (ys := L) (.lst _)) (by rfl)) ?_) (Or.inl rfl))
        first | (rw [okE_s hd1]; rfl)
      · skip
        cases hc2
    · skip
      refine ws_cons (ws_if (TD.eq (td_cmp (ED.eq (d' := .str (opP o)) (ed_ix (ED.eq (d' := .tup [.str (opP o), l.e, r.e]) (ed_var 1 rfl) rfl) ed_int IX.t0) rfl) ed_str c2_eqS (by rfl)) (opP_lay o)) (fun hc3 => ?_) (fun hc3 => ?_))
      · skip
        cases hc3
      · skip
        clear hc3
        refine ws_nil ?_
        refine ws_cons (ws_if (td_tw (tw_and (k' := true) (TD.eq (td_cmp (ED.eq (d' := .str (opP o)) (ed_ix (ED.eq (d' := .tup [.str (opP o), l.e, r.e]) (ed_var 1 rfl) rfl) ed_int IX.t0) rfl) (ed_const KC.«SIZING» (by rfl)) (c2_inStr (ys := opL3) (.tup _)) (by rfl)) (opP_notS o)) (fun h => by cases h))) (fun hc4 => ?_) (fun hc4 => ?_))
        · skip
          simp at hc4
        · skip
          clear hc4
          refine ws_nil ?_
          refine ws_cons (ws_ret (ED.eq (ed_callB (id := "all") (by rfl) B.«all» bb_all (ad_cons (ed_lst (eo_map2 [("part", 3)] ((Ex.two o l r).parts) (Ex.e) (fun y => okE L (dp - 1).toNat y) (D.bl) rfl nd (blkOk_by (N := ["layers", "expression", "depth", "part"]) (sc := defScope s_is_expression_over_z8) (by decide +kernel)) (id_tup (ed_call G_parts_of (hr.mono (by decide)) (by rfl) (ad_cons (ed_var 1 rfl) ad_nil) (by exact .mk (Ex.two o l r)))) (rfl) (fun y hxm => ⟨_, by rfl, fun _ _ _ _ _ => ⟨(dg_name 3 nd), tds_nil, (ed_call G_is_expression_over_z7 (hr.mono (by decide)) (by rfl) (ad_cons (ed_var 0 rfl) (ad_cons (ed_var 3 rfl) (ad_cons (ed_bin (ed_var 2 rfl) ed_int (by walk_at "b2")) ad_nil))) (by exact .mk L _ (dp - 1) (by omega)))⟩⟩) (by rw [sizeLine_eq]; exact Nat.le_trans (parts_len _) (by decide)))) ad_nil) (bc_all rfl)) ?_) (Or.inl rfl))
          rw [okE_s hd1]
          show D.bl ([okE L (dp - 1).toNat l, okE L (dp - 1).toNat r].all id) = _
          simp [okE]
    · skip
      refine ws_cons (ws_if (TD.eq (td_cmp (ED.eq (d' := .str (opS o)) (ed_ix (ED.eq (d' := .tup [.str (opS o), .int n, y.e]) (ed_var 1 rfl) rfl) ed_int IX.t0) rfl) ed_str c2_eqS (by rfl)) (opS_lay o)) (fun hc6 => ?_) (fun hc6 => ?_))
      · skip
        cases hc6
      · skip
        clear hc6
        refine ws_nil ?_
        refine ws_cons (ws_if (td_tw (tw_and (TD.eq (td_cmp (ED.eq (d' := .str (opS o)) (ed_ix (ED.eq (d' := .tup [.str (opS o), .int n, y.e]) (ed_var 1 rfl) rfl) ed_int IX.t0) rfl) (ed_const KC.«SIZING» (by rfl)) (c2_inStr (ys := opL3) (.tup _)) (by rfl)) (opS_in o)) (fun hb8 => (tw_and1 (td_not (td_truth (ed_call G_is_size (hr.mono (by decide)) (by rfl) (ad_cons (ED.eq (d' := .str (opS o)) (ed_ix (ED.eq (d' := .tup [.str (opS o), .int n, y.e]) (ed_var 1 rfl) rfl) ed_int IX.t0) rfl) (ad_cons (ED.eq (d' := .int n) (ed_ix (ED.eq (d' := .tup [.str (opS o), .int n, y.e]) (ed_var 1 rfl) rfl) ed_int IX.t1) rfl) ad_nil)) (by exact .mk _ _)) rfl)))))) (fun hc7 => ?_) (fun hc7 => ?_))
        · skip
          have hsz : szB (opS o) n = false := by simpa using hc7
          refine ws_cons (ws_ret (ED.eq ed_bl ?_) (Or.inl rfl))
          first | (rw [okE_s hd1]; unfold okE; rw [hsz]; rfl) | (rw [okE_s hd1]; show D.bl ([okE L (dp - 1).toNat y].all id) = _; simp [okE, hsz])
        · skip
          have hsz : szB (opS o) n = true := by simpa using hc7
          refine ws_nil ?_
          refine ws_cons (ws_ret (ED.eq (ed_callB (id := "all") (by rfl) B.«all» bb_all (ad_cons (ed_lst (eo_map2 [("part", 3)] ((Ex.siz o n y).parts) (Ex.e) (fun y => okE L (dp - 1).toNat y) (D.bl) rfl nd (blkOk_by (N := ["layers", "expression", "depth", "part"]) (sc := defScope s_is_expression_over_z8) (by decide +kernel)) (id_tup (ed_call G_parts_of (hr.mono (by decide)) (by rfl) (ad_cons (ed_var 1 rfl) ad_nil) (by exact .mk (Ex.siz o n y)))) (rfl) (fun y hxm => ⟨_, by rfl, fun _ _ _ _ _ => ⟨(dg_name 3 nd), tds_nil, (ed_call G_is_expression_over_z7 (hr.mono (by decide)) (by rfl) (ad_cons (ed_var 0 rfl) (ad_cons (ed_var 3 rfl) (ad_cons (ed_bin (ed_var 2 rfl) ed_int (by walk_at "b2")) ad_nil))) (by exact .mk L _ (dp - 1) (by omega)))⟩⟩) (by rw [sizeLine_eq]; exact Nat.le_trans (parts_len _) (by decide)))) ad_nil) (bc_all rfl)) ?_) (Or.inl rfl))
          first | (rw [okE_s hd1]; unfold okE; rw [hsz]; rfl) | (rw [okE_s hd1]; show D.bl ([okE L (dp - 1).toNat y].all id) = _; simp [okE, hsz])
abbrev s_is_expression_over_z9 : Stmt := top 27
theorem sc_is_expression_over_z9 : FnScope ["layers", "expression", "depth", "part"] ["layers", "expression", "depth"] (defScope s_is_expression_over_z9) := ⟨rfl, rfl, rfl, by decide +kernel, rfl, by decide +kernel, by decide +kernel⟩
theorem ok_is_expression_over_z9 {f : Addr} {fd : FuncData} (F : Fun K "is_expression_over" "is_expression_over" s_is_expression_over_z9 f fd) (B : Bt mg) (KC : Kt K mg) (KL : Lt K mg) (WD : Zdt K w mg) (XF : Xt K mg) (G_is_expression_over_z8 : Fn P w K mg base "is_expression_over" 10 R_is_expression_over_z8) (G_is_expression_over_z8 : Fn P w K mg base "is_expression_over" 10 R_is_expression_over_z8) (G_is_size : Fn P w K mg base "is_size" 1 R_is_size) (G_parts_of : Fn P w K mg base "parts_of" 1 R_parts_of) :
    FnOk P w K mg base CX0 11 f fd ["layers", "expression", "depth"] (spR K R_is_expression_over_z9) := by
  refine fn_ok (k := 10) F sc_is_expression_over_z9 (fun ds d h => by cases h; rfl) fun ds d hR cdv A outer s H E hr => ?_
  have nd := sc_is_expression_over_z9.nd
  have hu := hr.units
  rcases hR with ⟨L, x, dp, hd⟩
  walk_at "en"
  refine ws_cons (ws_if (td_cmp (ed_var 2 rfl) ed_int (by walk_at "c2")) (fun hc1 => ?_) (fun hc1 => ?_))
  · skip
    have hd1 := of_decide_eq_true hc1
    refine ws_cons (ws_ret (ED.eq ed_bl ?_) (Or.inl rfl))
    rw [okE_no hd1]
  · skip
    have hd1 := of_decide_eq_false hc1
    refine ws_nil ?_
    rcases x with n | ⟨o, l, r⟩ | ⟨o, n, y⟩
    · skip
      refine ws_cons (ws_if (TD.eq (td_cmp (ED.eq (d' := .str "layer") (ed_ix (ED.eq (d' := .tup [.str "layer", .str n]) (ed_var 1 rfl) rfl) ed_int IX.t0) rfl) ed_str c2_eqS (by rfl)) rfl) (fun hc2 => ?_) (fun hc2 => ?_))
      · skip
        clear hc2
        refine ws_cons (ws_ret (ED.eq (ed_cmp (ED.eq (d' := .str n) (ed_ix (ED.eq (d' := .tup [.str "layer", .str n]) (ed_var 1 rfl) rfl) ed_int IX.t1) rfl) (ed_var 0 rfl) (c2_inStr (ys := L) (.lst _)) (by rfl)) ?_) (Or.inl rfl))
        first | (rw [okE_s hd1]; rfl)
      · skip
        cases hc2
    · skip
      refine ws_cons (ws_if (TD.eq (td_cmp (ED.eq (d' := .str (opP o)) (ed_ix (ED.eq (d' := .tup [.str (opP o), l.e, r.e]) (ed_var 1 rfl) rfl) ed_int IX.t0) rfl) ed_str c2_eqS (by rfl)) (opP_lay o)) (fun hc3 => ?_) (fun hc3 => ?_))
      · skip
        cases hc3
      · skip
        clear hc3
        refine ws_nil ?_
        refine ws_cons (ws_if (td_tw (tw_and (k' := true) (TD.eq (td_cmp (ED.eq (d' := .str (opP o)) (ed_ix (ED.eq (d' := .tup [.str (opP o), l.e, r.e]) (ed_var 1 rfl) rfl) ed_int IX.t0) rfl) (ed_const KC.«SIZING» (by rfl)) (c2_inStr (ys := opL3) (.tup _)) (by rfl)) (opP_notS o)) (fun h => by cases h))) (fun hc4 => ?_) (fun hc4 => ?_))
        · skip
          simp at hc4
        · skip
          clear hc4
          refine ws_nil ?_
          refine ws_cons (ws_ret (ED.eq (ed_callB (id := "all") (by rfl) B.«all» bb_all (ad_cons (ed_lst (eo_map2 [("part", 3)] ((Ex.two o l r).parts) (Ex.e) (fun y => okE L (dp - 1).toNat y) (D.bl) rfl nd (blkOk_by (N := ["layers", "expression", "depth", "part"]) (sc := defScope s_is_expression_over_z9) (by decide +kernel)) (id_tup (ed_call G_parts_of (hr.mono (by decide)) (by rfl) (ad_cons (ed_var 1 rfl) ad_nil) (by exact .mk (Ex.two o l r)))) (rfl) (fun y hxm => ⟨_, by rfl, fun _ _ _ _ _ => ⟨(dg_name 3 nd), tds_nil, (ed_call G_is_expression_over_z8 (hr.mono (by decide)) (by rfl) (ad_cons (ed_var 0 rfl) (ad_cons (ed_var 3 rfl) (ad_cons (ed_bin (ed_var 2 rfl) ed_int (by walk_at "b2")) ad_nil))) (by exact .mk L _ (dp - 1) (by omega)))⟩⟩) (by rw [sizeLine_eq]; exact Nat.le_trans (parts_len _) (by decide)))) ad_nil) (bc_all rfl)) ?_) (Or.inl rfl))
          rw [okE_s hd1]
          show D.bl ([okE L (dp - 1).toNat l, okE L (dp - 1).toNat r].all id) = _
          simp [okE]
    · skip
      refine ws_cons (ws_if (TD.eq (td_cmp (ED.eq (d' := .str (opS o)) (ed_ix (ED.eq (d' := .tup [.str (opS o), .int n, y.e]) (ed_var 1 rfl) rfl) ed_int IX.t0) rfl) ed_str c2_eqS (by rfl)) (opS_lay o)) (fun hc6 => ?_) (fun hc6 => ?_))
      · skip
        cases hc6
      · skip
        clear hc6
        refine ws_nil ?_
        refine ws_cons (ws_if (td_tw (tw_and (TD.eq (td_cmp (ED.eq (d' := .str (opS o)) (ed_ix (ED.eq (d' := .tup [.str (opS o), .int n, y.e]) (ed_var 1 rfl) rfl) ed_int IX.t0) rfl) (ed_const KC.«SIZING» (by rfl)) (c2_inStr (ys := opL3) (.tup _)) (by rfl)) (opS_in o)) (fun hb8 => (tw_and1 (td_not (td_truth (ed_call G_is_size (hr.mono (by decide)) (by rfl) (ad_cons (ED.eq (d' := .str (opS o)) (ed_ix (ED.eq (d' := .tup [.str (opS o), .int n, y.e]) (ed_var 1 rfl) rfl) ed_int IX.t0) rfl) (ad_cons (ED.eq (d' := .int n) (ed_ix (ED.eq (d' := .tup [.str (opS o), .int n, y.e]) (ed_var 1 rfl) rfl) ed_int IX.t1) rfl) ad_nil)) (by exact .mk _ _)) rfl)))))) (fun hc7 => ?_) (fun hc7 => ?_))
        · skip
          have hsz : szB (opS o) n = false := by simpa using hc7
          refine ws_cons (ws_ret (ED.eq ed_bl ?_) (Or.inl rfl))
          first | (rw [okE_s hd1]; unfold okE; rw [hsz]; rfl) | (rw [okE_s hd1]; show D.bl ([okE L (dp - 1).toNat y].all id) = _; simp [okE, hsz])
        · skip
          have hsz : szB (opS o) n = true := by simpa using hc7
          refine ws_nil ?_
          refine ws_cons (ws_ret (ED.eq (ed_callB (id := "all") (by rfl) B.«all» bb_all (ad_cons (ed_lst (eo_map2 [("part", 3)] ((Ex.siz o n y).parts) (Ex.e) (fun y => okE L (dp - 1).toNat y) (D.bl) rfl nd (blkOk_by (N := ["layers", "expression", "depth", "part"]) (sc := defScope s_is_expression_over_z9) (by decide +kernel)) (id_tup (ed_call G_parts_of (hr.mono (by decide)) (by rfl) (ad_cons (ed_var 1 rfl) ad_nil) (by exact .mk (Ex.siz o n y)))) (rfl) (fun y hxm => ⟨_, by rfl, fun _ _ _ _ _ => ⟨(dg_name 3 nd), tds_nil, (ed_call G_is_expression_over_z8 (hr.mono (by decide)) (by rfl) (ad_cons (ed_var 0 rfl) (ad_cons (ed_var 3 rfl) (ad_cons (ed_bin (ed_var 2 rfl) ed_int (by walk_at "b2")) ad_nil))) (by exact .mk L _ (dp - 1) (by omega)))⟩⟩) (by rw [sizeLine_eq]; exact Nat.le_trans (parts_len _) (by decide)))) ad_nil) (bc_all rfl)) ?_) (Or.inl rfl))
          first | (rw [okE_s hd1]; unfold okE; rw [hsz]; rfl) | (rw [okE_s hd1]; show D.bl ([okE L (dp - 1).toNat y].all id) = _; simp [okE, hsz])
abbrev s_is_expression_over_z10 : Stmt := top 27
theorem sc_is_expression_over_z10 : FnScope ["layers", "expression", "depth", "part"] ["layers", "expression", "depth"] (defScope s_is_expression_over_z10) := ⟨rfl, rfl, rfl, by decide +kernel, rfl, by decide +kernel, by decide +kernel⟩
theorem ok_is_expression_over_z10 {f : Addr} {fd : FuncData} (F : Fun K "is_expression_over" "is_expression_over" s_is_expression_over_z10 f fd) (B : Bt mg) (KC : Kt K mg) (KL : Lt K mg) (WD : Zdt K w mg) (XF : Xt K mg) (G_is_expression_over_z9 : Fn P w K mg base "is_expression_over" 11 R_is_expression_over_z9) (G_is_expression_over_z9 : Fn P w K mg base "is_expression_over" 11 R_is_expression_over_z9) (G_is_size : Fn P w K mg base "is_size" 1 R_is_size) (G_parts_of : Fn P w K mg base "parts_of" 1 R_parts_of) :
    FnOk P w K mg base CX0 12 f fd ["layers", "expression", "depth"] (spR K R_is_expression_over_z10) := by
  refine fn_ok (k := 11) F sc_is_expression_over_z10 (fun ds d h => by cases h; rfl) fun ds d hR cdv A outer s H E hr => ?_
  have nd := sc_is_expression_over_z10.nd
  have hu := hr.units
  rcases hR with ⟨L, x, dp, hd⟩
  walk_at "en"
  refine ws_cons (ws_if (td_cmp (ed_var 2 rfl) ed_int (by walk_at "c2")) (fun hc1 => ?_) (fun hc1 => ?_))
  · skip
    have hd1 := of_decide_eq_true hc1
    refine ws_cons (ws_ret (ED.eq ed_bl ?_) (Or.inl rfl))
    rw [okE_no hd1]
  · skip
    have hd1 := of_decide_eq_false hc1
    refine ws_nil ?_
    rcases x with n | ⟨o, l, r⟩ | ⟨o, n, y⟩
    · skip
      refine ws_cons (ws_if (TD.eq (td_cmp (ED.eq (d' := .str "layer") (ed_ix (ED.eq (d' := .tup [.str "layer", .str n]) (ed_var 1 rfl) rfl) ed_int IX.t0) rfl) ed_str c2_eqS (by rfl)) rfl) (fun hc2 => ?_) (fun hc2 => ?_))
      · skip
        clear hc2
        refine ws_cons (ws_ret (ED.eq (ed_cmp (ED.eq (d' := .str n) (ed_ix (ED.eq (d' := .tup [.str "layer", .str n]) (ed_var 1 rfl) rfl) ed_int IX.t1) rfl) (ed_var 0 rfl) (c2_inStr (ys := L) (.lst _)) (by rfl)) ?_) (Or.inl rfl))
        first | (rw [okE_s hd1]; rfl)
      · skip
        cases hc2
    · skip
      refine ws_cons (ws_if (TD.eq (td_cmp (ED.eq (d' := .str (opP o)) (ed_ix (ED.eq (d' := .tup [.str (opP o), l.e, r.e]) (ed_var 1 rfl) rfl) ed_int IX.t0) rfl) ed_str c2_eqS (by rfl)) (opP_lay o)) (fun hc3 => ?_) (fun hc3 => ?_))
      · skip
        cases hc3
      · skip
        clear hc3
        refine ws_nil ?_
        refine ws_cons (ws_if (td_tw (tw_and (k' := true) (TD.eq (td_cmp (ED.eq (d' := .str (opP o)) (ed_ix (ED.eq (d' := .tup [.str (opP o), l.e, r.e]) (ed_var 1 rfl) rfl) ed_int IX.t0) rfl) (ed_const KC.«SIZING» (by rfl)) (c2_inStr (ys := opL3) (.tup _)) (by rfl)) (opP_notS o)) (fun h => by cases h))) (fun hc4 => ?_) (fun hc4 => ?_))
        · skip
          simp at hc4
        · skip
          clear hc4
          refine ws_nil ?_
          refine ws_cons (ws_ret (ED.eq (ed_callB (id := "all") (by rfl) B.«all» bb_all (ad_cons (ed_lst (eo_map2 [("part", 3)] ((Ex.two o l r).parts) (Ex.e) (fun y => okE L (dp - 1).toNat y) (D.bl) rfl nd (blkOk_by (N := ["layers", "expression", "depth", "part"]) (sc := defScope s_is_expression_over_z10) (by decide +kernel)) (id_tup (ed_call G_parts_of (hr.mono (by decide)) (by rfl) (ad_cons (ed_var 1 rfl) ad_nil) (by exact .mk (Ex.two o l r)))) (rfl) (fun y hxm => ⟨_, by rfl, fun _ _ _ _ _ => ⟨(dg_name 3 nd), tds_nil, (ed_call G_is_expression_over_z9 (hr.mono (by decide)) (by rfl) (ad_cons (ed_var 0 rfl) (ad_cons (ed_var 3 rfl) (ad_cons (ed_bin (ed_var 2 rfl) ed_int (by walk_at "b2")) ad_nil))) (by exact .mk L _ (dp - 1) (by omega)))⟩⟩) (by rw [sizeLine_eq]; exact Nat.le_trans (parts_len _) (by decide)))) ad_nil) (bc_all rfl)) ?_) (Or.inl rfl))
          rw [okE_s hd1]
          show D.bl ([okE L (dp - 1).toNat l, okE L (dp - 1).toNat r].all id) = _
          simp [okE]
    · skip
      refine ws_cons (ws_if (TD.eq (td_cmp (ED.eq (d' := .str (opS o)) (ed_ix (ED.eq (d' := .tup [.str (opS o), .int n, y.e]) (ed_var 1 rfl) rfl) ed_int IX.t0) rfl) ed_str c2_eqS (by rfl)) (opS_lay o)) (fun hc6 => ?_) (fun hc6 => ?_))
      · skip
        cases hc6
      · skip
        clear hc6
        refine ws_nil ?_
        refine ws_cons (ws_if (td_tw (tw_and (TD.eq (td_cmp (ED.eq (d' := .str (opS o)) (ed_ix (ED.eq (d' := .tup [.str (opS o), .int n, y.e]) (ed_var 1 rfl) rfl) ed_int IX.t0) rfl) (ed_const KC.«SIZING» (by rfl)) (c2_inStr (ys := opL3) (.tup _)) (by rfl)) (opS_in o)) (fun hb8 => (tw_and1 (td_not (td_truth (ed_call G_is_size (hr.mono (by decide)) (by rfl) (ad_cons (ED.eq (d' := .str (opS o)) (ed_ix (ED.eq (d' := .tup [.str (opS o), .int n, y.e]) (ed_var 1 rfl) rfl) ed_int IX.t0) rfl) (ad_cons (ED.eq (d' := .int n) (ed_ix (ED.eq (d' := .tup [.str (opS o), .int n, y.e]) (ed_var 1 rfl) rfl) ed_int IX.t1) rfl) ad_nil)) (by exact .mk _ _)) rfl)))))) (fun hc7 => ?_) (fun hc7 => ?_))
        · skip
          have hsz : szB (opS o) n = false := by simpa using hc7
          refine ws_cons (ws_ret (ED.eq ed_bl ?_) (Or.inl rfl))
          first | (rw [okE_s hd1]; unfold okE; rw [hsz]; rfl) | (rw [okE_s hd1]; show D.bl ([okE L (dp - 1).toNat y].all id) = _; simp [okE, hsz])
        · skip
          have hsz : szB (opS o) n = true := by simpa using hc7
          refine ws_nil ?_
          refine ws_cons (ws_ret (ED.eq (ed_callB (id := "all") (by rfl) B.«all» bb_all (ad_cons (ed_lst (eo_map2 [("part", 3)] ((Ex.siz o n y).parts) (Ex.e) (fun y => okE L (dp - 1).toNat y) (D.bl) rfl nd (blkOk_by (N := ["layers", "expression", "depth", "part"]) (sc := defScope s_is_expression_over_z10) (by decide +kernel)) (id_tup (ed_call G_parts_of (hr.mono (by decide)) (by rfl) (ad_cons (ed_var 1 rfl) ad_nil) (by exact .mk (Ex.siz o n y)))) (rfl) (fun y hxm => ⟨_, by rfl, fun _ _ _ _ _ => ⟨(dg_name 3 nd), tds_nil, (ed_call G_is_expression_over_z9 (hr.mono (by decide)) (by rfl) (ad_cons (ed_var 0 rfl) (ad_cons (ed_var 3 rfl) (ad_cons (ed_bin (ed_var 2 rfl) ed_int (by walk_at "b2")) ad_nil))) (by exact .mk L _ (dp - 1) (by omega)))⟩⟩) (by rw [sizeLine_eq]; exact Nat.le_trans (parts_len _) (by decide)))) ad_nil) (bc_all rfl)) ?_) (Or.inl rfl))
          first | (rw [okE_s hd1]; unfold okE; rw [hsz]; rfl) | (rw [okE_s hd1]; show D.bl ([okE L (dp - 1).toNat y].all id) = _; simp [okE, hsz])
abbrev s_is_expression_over_z11 : Stmt := top 27
theorem sc_is_expression_over_z11 : FnScope ["layers", "expression", "depth", "part"] ["layers", "expression", "depth"] (defScope s_is_expression_over_z11) := ⟨rfl, rfl, rfl, by decide +kernel, rfl, by decide +kernel, by decide +kernel⟩
theorem ok_is_expression_over_z11 {f : Addr} {fd : FuncData} (F : Fun K "is_expression_over" "is_expression_over" s_is_expression_over_z11 f fd) (B : Bt mg) (KC : Kt K mg) (KL : Lt K mg) (WD : Zdt K w mg) (XF : Xt K mg) (G_is_expression_over_z10 : Fn P w K mg base "is_expression_over" 12 R_is_expression_over_z10) (G_is_expression_over_z10 : Fn P w K mg base "is_expression_over" 12 R_is_expression_over_z10) (G_is_size : Fn P w K mg base "is_size" 1 R_is_size) (G_parts_of : Fn P w K mg base "parts_of" 1 R_parts_of) :
    FnOk P w K mg base CX0 13 f fd ["layers", "expression", "depth"] (spR K R_is_expression_over_z11) := by
  refine fn_ok (k := 12) F sc_is_expression_over_z11 (fun ds d h => by cases h; rfl) fun ds d hR cdv A outer s H E hr => ?_
  have nd := sc_is_expression_over_z11.nd
  have hu := hr.units
  rcases hR with ⟨L, x, dp, hd⟩
  walk_at "en"
  refine ws_cons (ws_if (td_cmp (ed_var 2 rfl) ed_int (by walk_at "c2")) (fun hc1 => ?_) (fun hc1 => ?_))
  · skip
    have hd1 := of_decide_eq_true hc1
    refine ws_cons (ws_ret (ED.eq ed_bl ?_) (Or.inl rfl))
    rw [okE_no hd1]
  · skip
    have hd1 := of_decide_eq_false hc1
    refine ws_nil ?_
    rcases x with n | ⟨o, l, r⟩ | ⟨o, n, y⟩
    · skip
      refine ws_cons (ws_if (TD.eq (td_cmp (ED.eq (d' := .str "layer") (ed_ix (ED.eq (d' := .tup [.str "layer", .str n]) (ed_var 1 rfl) rfl) ed_int IX.t0) rfl) ed_str c2_eqS (by rfl)) rfl) (fun hc2 => ?_) (fun hc2 => ?_))
      · skip
        clear hc2
        refine ws_cons (ws_ret (ED.eq (ed_cmp (ED.eq (d' := .str n) (ed_ix (ED.eq (d' := .tup [.str "layer", .str n]) (ed_var 1 rfl) rfl) ed_int IX.t1) rfl) (ed_var 0 rfl) (c2_inStr (ys := L) (.lst _)) (by rfl)) ?_) (Or.inl rfl))
        first | (rw [okE_s hd1]; rfl)
      · skip
        cases hc2
    · skip
      refine ws_cons (ws_if (TD.eq (td_cmp (ED.eq (d' := .str (opP o)) (ed_ix (ED.eq (d' := .tup [.str (opP o), l.e, r.e]) (ed_var 1 rfl) rfl) ed_int IX.t0) rfl) ed_str c2_eqS (by rfl)) (opP_lay o)) (fun hc3 => ?_) (fun hc3 => ?_))
      · skip
        cases hc3
      · skip
        clear hc3
        refine ws_nil ?_
        refine ws_cons (ws_if (td_tw (tw_and (k' := true) (TD.eq (td_cmp (ED.eq (d' := .str (opP o)) (ed_ix (ED.eq (d' := .tup [.str (opP o), l.e, r.e]) (ed_var 1 rfl) rfl) ed_int IX.t0) rfl) (ed_const KC.«SIZING» (by rfl)) (c2_inStr (ys := opL3) (.tup _)) (by rfl)) (opP_notS o)) (fun h => by cases h))) (fun hc4 => ?_) (fun hc4 => ?_))
        · skip
          simp at hc4
        · skip
          clear hc4
          refine ws_nil ?_
          refine ws_cons (ws_ret (ED.eq (ed_callB (id := "all") (by rfl) B.«all» bb_all (ad_cons (ed_lst (eo_map2 [("part", 3)] ((Ex.two o l r).parts) (Ex.e) (fun y => okE L (dp - 1).toNat y) (D.bl) rfl nd (blkOk_by (N := ["layers", "expression", "depth", "part"]) (sc := defScope s_is_expression_over_z11) (by decide +kernel)) (id_tup (ed_call G_parts_of (hr.mono (by decide)) (by rfl) (ad_cons (ed_var 1 rfl) ad_nil) (by exact .mk (Ex.two o l r)))) (rfl) (fun y hxm => ⟨_, by rfl, fun _ _ _ _ _ => ⟨(dg_name 3 nd), tds_nil, (ed_call G_is_expression_over_z10 (hr.mono (by decide)) (by rfl) (ad_cons (ed_var 0 rfl) (ad_cons (ed_var 3 rfl) (ad_cons (ed_bin (ed_var 2 rfl) ed_int (by walk_at "b2")) ad_nil))) (by exact .mk L _ (dp - 1) (by omega)))⟩⟩) (by rw [sizeLine_eq]; exact Nat.le_trans (parts_len _) (by decide)))) ad_nil) (bc_all rfl)) ?_) (Or.inl rfl))
          rw [okE_s hd1]
          show D.bl ([okE L (dp - 1).toNat l, okE L (dp - 1).toNat r].all id) = _
          simp [okE]
    · skip
      refine ws_cons (ws_if (TD.eq (td_cmp (ED.eq (d' := .str (opS o)) (ed_ix (ED.eq (d' := .tup [.str (opS o), .int n, y.e]) (ed_var 1 rfl) rfl) ed_int IX.t0) rfl) ed_str c2_eqS (by rfl)) (opS_lay o)) (fun hc6 => ?_) (fun hc6 => ?_))
      · skip
        cases hc6
      · skip
        clear hc6
        refine ws_nil ?_
        refine ws_cons (ws_if (td_tw (tw_and (TD.eq (td_cmp (ED.eq (d' := .str (opS o)) (ed_ix (ED.eq (d' := .tup [.str (opS o), .int n, y.e]) (ed_var 1 rfl) rfl) ed_int IX.t0) rfl) (ed_const KC.«SIZING» (by rfl)) (c2_inStr (ys := opL3) (.tup _)) (by rfl)) (opS_in o)) (fun hb8 => (tw_and1 (td_not (td_truth (ed_call G_is_size (hr.mono (by decide)) (by rfl) (ad_cons (ED.eq (d' := .str (opS o)) (ed_ix (ED.eq (d' := .tup [.str (opS o), .int n, y.e]) (ed_var 1 rfl) rfl) ed_int IX.t0) rfl) (ad_cons (ED.eq (d' := .int n) (ed_ix (ED.eq (d' := .tup [.str (opS o), .int n, y.e]) (ed_var 1 rfl) rfl) ed_int IX.t1) rfl) ad_nil)) (by exact .mk _ _)) rfl)))))) (fun hc7 => ?_) (fun hc7 => ?_))
        · skip
          have hsz : szB (opS o) n = false := by simpa using hc7
          refine ws_cons (ws_ret (ED.eq ed_bl ?_) (Or.inl rfl))
          first | (rw [okE_s hd1]; unfold okE; rw [hsz]; rfl) | (rw [okE_s hd1]; show D.bl ([okE L (dp - 1).toNat y].all id) = _; simp [okE, hsz])
        · skip
          have hsz : szB (opS o) n = true := by simpa using hc7
          refine ws_nil ?_
          refine ws_cons (ws_ret (ED.eq (ed_callB (id := "all") (by rfl) B.«all» bb_all (ad_cons (ed_lst (eo_map2 [("part", 3)] ((Ex.siz o n y).parts) (Ex.e) (fun y => okE L (dp - 1).toNat y) (D.bl) rfl nd (blkOk_by (N := ["layers", "expression", "depth", "part"]) (sc := defScope s_is_expression_over_z11) (by decide +kernel)) (id_tup (ed_call G_parts_of (hr.mono (by decide)) (by rfl) (ad_cons (ed_var 1 rfl) ad_nil) (by exact .mk (Ex.siz o n y)))) (rfl) (fun y hxm => ⟨_, by rfl, fun _ _ _ _ _ => ⟨(dg_name 3 nd), tds_nil, (ed_call G_is_expression_over_z10 (hr.mono (by decide)) (by rfl) (ad_cons (ed_var 0 rfl) (ad_cons (ed_var 3 rfl) (ad_cons (ed_bin (ed_var 2 rfl) ed_int (by walk_at "b2")) ad_nil))) (by exact .mk L _ (dp - 1) (by omega)))⟩⟩) (by rw [sizeLine_eq]; exact Nat.le_trans (parts_len _) (by decide)))) ad_nil) (bc_all rfl)) ?_) (Or.inl rfl))
          first | (rw [okE_s hd1]; unfold okE; rw [hsz]; rfl) | (rw [okE_s hd1]; show D.bl ([okE L (dp - 1).toNat y].all id) = _; simp [okE, hsz])
abbrev s_is_expression_over_z12 : Stmt := top 27
theorem sc_is_expression_over_z12 : FnScope ["layers", "expression", "depth", "part"] ["layers", "expression", "depth"] (defScope s_is_expression_over_z12) := ⟨rfl, rfl, rfl, by decide +kernel, rfl, by decide +kernel, by decide +kernel⟩
theorem ok_is_expression_over_z12 {f : Addr} {fd : FuncData} (F : Fun K "is_expression_over" "is_expression_over" s_is_expression_over_z12 f fd) (B : Bt mg) (KC : Kt K mg) (KL : Lt K mg) (WD : Zdt K w mg) (XF : Xt K mg) (G_is_expression_over_z11 : Fn P w K mg base "is_expression_over" 13 R_is_expression_over_z11) (G_is_expression_over_z11 : Fn P w K mg base "is_expression_over" 13 R_is_expression_over_z11) (G_is_size : Fn P w K mg base "is_size" 1 R_is_size) (G_parts_of : Fn P w K mg base "parts_of" 1 R_parts_of) :
    FnOk P w K mg base CX0 14 f fd ["layers", "expression", "depth"] (spR K R_is_expression_over_z12) := by
  refine fn_ok (k := 13) F sc_is_expression_over_z12 (fun ds d h => by cases h; rfl) fun ds d hR cdv A outer s H E hr => ?_
  have nd := sc_is_expression_over_z12.nd
  have hu := hr.units
  rcases hR with ⟨L, x, dp, hd⟩
  walk_at "en"
  refine ws_cons (ws_if (td_cmp (ed_var 2 rfl) ed_int (by walk_at "c2")) (fun hc1 => ?_) (fun hc1 => ?_))
  · skip
    have hd1 := of_decide_eq_true hc1
    refine ws_cons (ws_ret (ED.eq ed_bl ?_) (Or.inl rfl))
    rw [okE_no hd1]
  · skip
    have hd1 := of_decide_eq_false hc1
    refine ws_nil ?_
    rcases x with n | ⟨o, l, r⟩ | ⟨o, n, y⟩
    · skip
      refine ws_cons (ws_if (TD.eq (td_cmp (ED.eq (d' := .str "layer") (ed_ix (ED.eq (d' := .tup [.str "layer", .str n]) (ed_var 1 rfl) rfl) ed_int IX.t0) rfl) ed_str c2_eqS (by rfl)) rfl) (fun hc2 => ?_) (fun hc2 => ?_))
      · skip
        clear hc2
        refine ws_cons (ws_ret (ED.eq (ed_cmp (ED.eq (d' := .str n) (ed_ix (ED.eq (d' := .tup [.str "layer", .str n]) (ed_var 1 rfl) rfl) ed_int IX.t1) rfl) (ed_var 0 rfl) (c2_inStr (ys := L) (.lst _)) (by rfl)) ?_) (Or.inl rfl))
        first | (rw [okE_s hd1]; rfl)
      · skip
        cases hc2
    · skip
      refine ws_cons (ws_if (TD.eq (td_cmp (ED.eq (d' := .str (opP o)) (ed_ix (ED.eq (d' := .tup [.str (opP o), l.e, r.e]) (ed_var 1 rfl) rfl) ed_int IX.t0) rfl) ed_str c2_eqS (by rfl)) (opP_lay o)) (fun hc3 => ?_) (fun hc3 => ?_))
      · skip
        cases hc3
      · skip
        clear hc3
        refine ws_nil ?_
        refine ws_cons (ws_if (td_tw (tw_and (k' := true) (TD.eq (td_cmp (ED.eq (d' := .str (opP o)) (ed_ix (ED.eq (d' := .tup [.str (opP o), l.e, r.e]) (ed_var 1 rfl) rfl) ed_int IX.t0) rfl) (ed_const KC.«SIZING» (by rfl)) (c2_inStr (ys := opL3) (.tup _)) (by rfl)) (opP_notS o)) (fun h => by cases h))) (fun hc4 => ?_) (fun hc4 => ?_))
        · skip
          simp at hc4
        · skip
          clear hc4
          refine ws_nil ?_
          refine ws_cons (ws_ret (ED.eq (ed_callB (id := "all") (by rfl) B.«all» bb_all (ad_cons (ed_lst (eo_map2 [("part", 3)] ((Ex.two o l r).parts) (Ex.e) (fun y => okE L (dp - 1).toNat y) (D.bl) rfl nd (blkOk_by (N := ["layers", "expression", "depth", "part"]) (sc := defScope s_is_expression_over_z12) (by decide +kernel)) (id_tup (ed_call G_parts_of (hr.mono (by decide)) (by rfl) (ad_cons (ed_var 1 rfl) ad_nil) (by exact .mk (Ex.two o l r)))) (rfl) (fun y hxm => ⟨_, by rfl, fun _ _ _ _ _ => ⟨(dg_name 3 nd), tds_nil, (ed_call G_is_expression_over_z11 (hr.mono (by decide)) (by rfl) (ad_cons (ed_var 0 rfl) (ad_cons (ed_var 3 rfl) (ad_cons (ed_bin (ed_var 2 rfl) ed_int (by walk_at "b2")) ad_nil))) (by exact .mk L _ (dp - 1) (by omega)))⟩⟩) (by rw [sizeLine_eq]; exact Nat.le_trans (parts_len _) (by decide)))) ad_nil) (bc_all rfl)) ?_) (Or.inl rfl))
          rw [okE_s hd1]
          show D.bl ([okE L (dp - 1).toNat l, okE L (dp - 1).toNat r].all id) = _
          simp [okE]
    · skip
      refine ws_cons (ws_if (TD.eq (td_cmp (ED.eq (d' := .str (opS o)) (ed_ix (ED.eq (d' := .tup [.str (opS o), .int n, y.e]) (ed_var 1 rfl) rfl) ed_int IX.t0) rfl) ed_str c2_eqS (by rfl)) (opS_lay o)) (fun hc6 => ?_) (fun hc6 => ?_))
      · skip
        cases hc6
      · skip
        clear hc6
        refine ws_nil ?_
        refine ws_cons (ws_if (td_tw (tw_and (TD.eq (td_cmp (ED.eq (d' := .str (opS o)) (ed_ix (ED.eq (d' := .tup [.str (opS o), .int n, y.e]) (ed_var 1 rfl) rfl) ed_int IX.t0) rfl) (ed_const KC.«SIZING» (by rfl)) (c2_inStr (ys := opL3) (.tup _)) (by rfl)) (opS_in o)) (fun hb8 => (tw_and1 (td_not (td_truth (ed_call G_is_size (hr.mono (by decide)) (by rfl) (ad_cons (ED.eq (d' := .str (opS o)) (ed_ix (ED.eq (d' := .tup [.str (opS o), .int n, y.e]) (ed_var 1 rfl) rfl) ed_int IX.t0) rfl) (ad_cons (ED.eq (d' := .int n) (ed_ix (ED.eq (d' := .tup [.str (opS o), .int n, y.e]) (ed_var 1 rfl) rfl) ed_int IX.t1) rfl) ad_nil)) (by exact .mk _ _)) rfl)))))) (fun hc7 => ?_) (fun hc7 => ?_))
        · skip
          have hsz : szB (opS o) n = false := by simpa using hc7
          refine ws_cons (ws_ret (ED.eq ed_bl ?_) (Or.inl rfl))
          first | (rw [okE_s hd1]; unfold okE; rw [hsz]; rfl) | (rw [okE_s hd1]; show D.bl ([okE L (dp - 1).toNat y].all id) = _; simp [okE, hsz])
        · skip
          have hsz : szB (opS o) n = true := by simpa using hc7
          refine ws_nil ?_
          refine ws_cons (ws_ret (ED.eq (ed_callB (id := "all") (by rfl) B.«all» bb_all (ad_cons (ed_lst (eo_map2 [("part", 3)] ((Ex.siz o n y).parts) (Ex.e) (fun y => okE L (dp - 1).toNat y) (D.bl) rfl nd (blkOk_by (N := ["layers", "expression", "depth", "part"]) (sc := defScope s_is_expression_over_z12) (by decide +kernel)) (id_tup (ed_call G_parts_of (hr.mono (by decide)) (by rfl) (ad_cons (ed_var 1 rfl) ad_nil) (by exact .mk (Ex.siz o n y)))) (rfl) (fun y hxm => ⟨_, by rfl, fun _ _ _ _ _ => ⟨(dg_name 3 nd), tds_nil, (ed_call G_is_expression_over_z11 (hr.mono (by decide)) (by rfl) (ad_cons (ed_var 0 rfl) (ad_cons (ed_var 3 rfl) (ad_cons (ed_bin (ed_var 2 rfl) ed_int (by walk_at "b2")) ad_nil))) (by exact .mk L _ (dp - 1) (by omega)))⟩⟩) (by rw [sizeLine_eq]; exact Nat.le_trans (parts_len _) (by decide)))) ad_nil) (bc_all rfl)) ?_) (Or.inl rfl))
          first | (rw [okE_s hd1]; unfold okE; rw [hsz]; rfl) | (rw [okE_s hd1]; show D.bl ([okE L (dp - 1).toNat y].all id) = _; simp [okE, hsz])
abbrev s_is_new_layer : Stmt := top 28
theorem sc_is_new_layer : FnScope ["layers", "name"] ["layers", "name"] (defScope s_is_new_layer) := ⟨rfl, rfl, rfl, by decide +kernel, rfl, by decide +kernel, by decide +kernel⟩
theorem ok_is_new_layer {f : Addr} {fd : FuncData} (F : Fun K "is_new_layer" "is_new_layer" s_is_new_layer f fd) (B : Bt mg) (KC : Kt K mg) (KL : Lt K mg) (WD : Zdt K w mg) (XF : Xt K mg) (G_is_name : Fn P w K mg base "is_name" 1 R_is_name) :
    FnOk P w K mg base CX0 2 f fd ["layers", "name"] (spR K R_is_new_layer) := by
  refine fn_ok (k := 1) F sc_is_new_layer (fun ds d h => by cases h; rfl) fun ds d hR cdv A outer s H E hr => ?_
  have nd := sc_is_new_layer.nd
  have hu := hr.units
  rcases hR with ⟨L, n, hn⟩
  walk_at "en"
  refine ws_cons (ws_ret (ED.eq (ed_and (ed_call G_is_name (hr.mono (by decide)) (by rfl) (ad_cons (ed_var 1 rfl) ad_nil) (by exact .mk _ hn)) (fun hb2 => (ed_and (ed_cmp (ed_var 1 rfl) (ed_const KC.«WORDS» (by rfl)) (c2_notInStr (ys := wds9) (.tup _)) (by rfl)) (fun hb1 => (ed_one (ed_cmp (ed_var 1 rfl) (ed_var 0 rfl) (c2_notInStr (ys := L) (.lst _)) (by rfl))))))) ?_) (Or.inl rfl))
  unfold newB
  first | rfl | simp
abbrev s_Deck_init : Stmt := inClass (top 29) 0
theorem sc_Deck_init : FnScope ["self", "definitions", "rules", "layers", "name", "expression", "rule"] ["self", "definitions", "rules"] (defScope s_Deck_init) := ⟨rfl, rfl, rfl, by decide +kernel, rfl, by decide +kernel, by decide +kernel⟩
theorem ok_Deck_init {f : Addr} {fd : FuncData} (F : Fun K "__init__" "Deck.__init__" s_Deck_init f fd) (B : Bt mg) (KC : Kt K mg) (KL : Lt K mg) (WD : Zdt K w mg) (XF : Xt K mg) (G_is_expression_over_z12 : Fn P w K mg base "is_expression_over" 14 R_is_expression_over_z12) (G_is_expression_over_z12 : Fn P w K mg base "is_expression_over" 14 R_is_expression_over_z12) (G_is_new_layer : Fn P w K mg base "is_new_layer" 2 R_is_new_layer) (G_is_rule_over : Fn P w K mg base "is_rule_over" 2 R_is_rule_over) :
    FnOk P w K mg base CX0 15 f fd ["self", "definitions", "rules"] (spI K "Deck" R_Deck_init) := by
  refine fn_okI (k := 14) F sc_Deck_init (fun ds ns es h => by cases h; rfl) fun a0 ds ns es hR cdv A outer s H E hr => ?_
  have nd := sc_Deck_init.nd
  have hu := hr.units
  rcases hR with ⟨F, Q, ok⟩
  have hs := ok.s
  walk_at "en"
  refine ws_cons (ws_if (td_cmp (ed_callB (id := "len") (by rfl) B.«len» bb_len (ad_cons (ed_var 1 rfl) ad_nil) (by walk_at "bc")) (ed_const KC.«MOST_DEFINITIONS» (by rfl)) (by walk_at "c2")) (fun hc1 => ?_) (fun hc1 => ?_))
  · skip
    exfalso; have h := of_decide_eq_true hc1; rw [List.length_map] at h; have := ok.dl; omega
  · skip
    clear hc1
    refine ws_nil ?_
    refine ws_cons (ws_if (td_cmp (ed_callB (id := "len") (by rfl) B.«len» bb_len (ad_cons (ed_var 2 rfl) ad_nil) (by walk_at "bc")) (ed_const KC.«MOST_RULES» (by rfl)) (by walk_at "c2")) (fun hc2 => ?_) (fun hc2 => ?_))
    · skip
      exfalso; have h := of_decide_eq_true hc2; rw [List.length_map] at h; have := ok.rl; omega
    · skip
      clear hc2
      refine ws_nil ?_
      refine ws_cons (ws_setO 3 nd (eo_callT (T := "list") (by rfl) B.«list» bb_list (ad_cons (ed_const KC.«LAYERS» (by rfl)) ad_nil) (by walk_at "bo")) ?_)
      walk_at "env"
      refine ws_cons (ws_forU (F) (Df.e) rfl (id_list (ed_var 1 rfl)) (by rfl) (U := Sl × Sl) (fun i u => [(3, .ow (.lst ((lyN (F.take i)).map .str))), (4, u.1), (5, u.2)]) (fun r => (r.getD 4 .no, r.getD 5 .no)) (fun _ => True) (rfl) (True.intro) ?_ ?_)
      · intro i0 f u0 hx0 hP0
        have hg := ok.df i0 f (List.getElem?_eq_some_iff.mp hx0).1 hx0
        refine ⟨_, _, (dg_tup rfl (dgs_cons (dg_name 4 nd) (dgs_cons (dg_name 5 nd) dgs_nil))), ?_⟩
        walk_at "env"
        refine ws_cons (ws_if (td_lend 3 rfl (td_not (td_truth (ed_call G_is_new_layer (hr.mono (by decide)) (by rfl) (ad_cons (ed_var 3 rfl) (ad_cons (ed_var 4 rfl) ad_nil)) (by exact .mk (lyN (F.take i0)) f.1 (by have := hs.nl f (List.mem_of_getElem? hx0); rw [sizeLine_eq]; omega))) rfl))) (fun hc3 => ?_) (fun hc3 => ?_))
        · skip
          exfalso; rw [hg.n] at hc3; cases hc3
        · skip
          clear hc3
          refine ws_nil ?_
          refine ws_cons (ws_if (td_lend 3 rfl (td_not (td_truth (ed_call G_is_expression_over_z12 (hr.mono (by decide)) (by rfl) (ad_cons (ed_var 3 rfl) (ad_cons (ed_var 5 rfl) (ad_cons (ed_const KC.«GREATEST_DEPTH» (by rfl)) ad_nil))) (by exact .mk (lyN (F.take i0)) f.2 12 (by decide))) rfl))) (fun hc4 => ?_) (fun hc4 => ?_))
          · skip
            exfalso; rw [show okE (lyN (F.take i0)) (12 : Int).toNat f.2 = true from hg.e] at hc4; cases hc4
          · skip
            clear hc4
            refine ws_nil ?_
            refine ws_cons (ws_append 3 rfl (ed_var 4 rfl) (by have h1 := lyN_len (F.take i0); have h2 := hs.fl; rw [List.length_take] at h1; rw [List.length_map, sizeLine_eq]; omega) ?_ (fun h => ps_expr (pe_bm PySem.F.plainAttrs_list PySem.F.slot_list_append PySem.F.type_list_append mt_append (pv 3) h)))
            walk_at "env"
            refine ws_nil ?_
            refine ⟨?_, True.intro⟩
            rw [lyN_take hx0, List.map_append]
            rfl
      · intro u0 hP0
        walk_at "env"
        rw [List.take_length]
        refine ws_share 3 rfl ?_
        walk_at "env"
        refine ws_cons (ws_if (td_not (td_truth (ed_callB (id := "all") (by rfl) B.«all» bb_all (ad_cons (ed_lst (eo_map2 [("rule", 6)] (Q) (ruX) (fun r : RuX => okRL (lyN F) r.1 r.2.1 r.2.2) (D.bl) rfl nd (blkOk_by (N := ["self", "definitions", "rules", "layers", "name", "expression", "rule"]) (sc := defScope s_Deck_init) (by decide +kernel)) (id_list (ed_var 2 rfl)) (rfl) (fun r hxm => ⟨_, by rfl, fun _ _ _ _ _ => ⟨(dg_name 6 nd), tds_nil, (ed_call G_is_rule_over (hr.mono (by decide)) (by rfl) (ad_cons (ed_var 3 rfl) (ad_cons (ed_var 6 rfl) ad_nil)) (by exact .mk (lyN F) _ _ _ (hs.fm _ hxm)))⟩⟩) (by have := hs.ql; rw [sizeLine_eq]; omega))) ad_nil) (bc_all rfl)) rfl)) (fun hc5 => ?_) (fun hc5 => ?_))
        · skip
          exfalso; have h9 : ((Q.map fun r : RuX => okRL (lyN F) r.1 r.2.1 r.2.2).all id) = true := (by rw [List.all_map]; exact List.all_eq_true.mpr ok.ru); rw [h9] at hc5; cases hc5
        · skip
          clear hc5
          refine ws_nil ?_
          refine ws_cons (ws_setF 0 KL.«Deck» rfl (ed_callT (T := "tuple") (by rfl) B.«tuple» bb_tuple (ad_cons (ed_var 1 rfl) ad_nil) ((bc_tupSeq (.lst _)))) ?_)
          simp only [List.cons_append, List.nil_append]
          walk_at "env"
          refine ws_cons (ws_setF 0 KL.«Deck» rfl (ed_callT (T := "tuple") (by rfl) B.«tuple» bb_tuple (ad_cons (ed_var 2 rfl) ad_nil) ((bc_tupSeq (.lst _)))) ?_)
          simp only [List.cons_append, List.nil_append]
          walk_at "env"
          refine ws_nil ?_
          exact ⟨_, _, rfl, rfl, fun _ _ h => h⟩
theorem okX_Deck_init {f : Addr} {fd : FuncData} (F : Fun K "__init__" "Deck.__init__" s_Deck_init f fd) (B : Bt mg) (KC : Kt K mg) (KL : Lt K mg) (WD : Zdt K w mg) (XF : Xt K mg) (G_is_expression_over_z12 : Fn P w K mg base "is_expression_over" 14 R_is_expression_over_z12) (G_is_expression_over_z12 : Fn P w K mg base "is_expression_over" 14 R_is_expression_over_z12) (G_is_new_layer : Fn P w K mg base "is_new_layer" 2 R_is_new_layer) (G_is_rule_over : Fn P w K mg base "is_rule_over" 2 R_is_rule_over) :
    FnOk P w K mg base (L2N.CX P w) 15 f fd ["self", "definitions", "rules"] (spIXG K "Deck" RX_Deck_init) := by
  refine fn_okIXG (k := 14) F sc_Deck_init (fun ds c h => by cases h; rfl) fun a0 ds cn hR cdv A outer s H E hr => ?_
  have nd := sc_Deck_init.nd
  have hu := hr.units
  rcases hR with ⟨F, Q, hs, bad⟩
  refine ⟨nosE 7, ?_⟩
  walk_at "en"
  refine xg_ifr (td_cmp (ed_callB (id := "len") (by rfl) B.«len» bb_len (ad_cons (ed_var 1 rfl) ad_nil) (by walk_at "bc")) (ed_const KC.«MOST_DEFINITIONS» (by rfl)) (by walk_at "c2")) (fun hc1 => ?_) (fun hc1 => ?_)
  · skip
    clear hc1
    exact xg_no (xg_head (xg_raise XF.«InvalidDeck» (by rfl) (ad_cons ed_str ad_nil)))
  · skip
    have h40 : F.length ≤ 40 := by have h := of_decide_eq_false hc1; rw [List.length_map] at h; omega
    refine xg_ifr (td_cmp (ed_callB (id := "len") (by rfl) B.«len» bb_len (ad_cons (ed_var 2 rfl) ad_nil) (by walk_at "bc")) (ed_const KC.«MOST_RULES» (by rfl)) (by walk_at "c2")) (fun hc2 => ?_) (fun hc2 => ?_)
    · skip
      clear hc2
      exact xg_no (xg_head (xg_raise XF.«InvalidDeck» (by rfl) (ad_cons ed_str ad_nil)))
    · skip
      have h41 : Q.length ≤ 40 := by have h := of_decide_eq_false hc2; rw [List.length_map] at h; omega
      refine xg_cons (ws_setO 3 nd (eo_callT (T := "list") (by rfl) B.«list» bb_list (ad_cons (ed_const KC.«LAYERS» (by rfl)) ad_nil) (by walk_at "bo")) ?_)
      walk_at "env"
      rcases bad with bad | ⟨_, bad⟩ | ⟨_, _, n, fb, hn, okp, bad⟩ | ⟨_, _, okp, rb, hrb, bad⟩
      · exfalso; omega
      · exfalso; omega
      · skip
        refine xg_head (xg_forU (F) (Df.e) rfl (id_list (ed_var 1 rfl)) (by rfl) (U := Sl × Sl) (fun i u => [(3, .ow (.lst ((lyN (F.take i)).map .str))), (4, u.1), (5, u.2)]) (fun r => (r.getD 4 .no, r.getD 5 .no)) (n) hn (rfl) ?_ ?_ (by first | exact passes_of rfl | assumption))
        · intro i0 f u0 hlt0 hx0
          have hg := okp i0 f (by omega) hx0
          have hfl9 := hs.fl
          refine ⟨_, _, (dg_tup rfl (dgs_cons (dg_name 4 nd) (dgs_cons (dg_name 5 nd) dgs_nil))), ?_⟩
          walk_at "env"
          refine ws_cons (ws_if (td_lend 3 rfl (td_not (td_truth (ed_call G_is_new_layer (hr.mono (by decide)) (by rfl) (ad_cons (ed_var 3 rfl) (ad_cons (ed_var 4 rfl) ad_nil)) (by first | exact .mk (lyN (F.take i0)) f.1 (by have := hs.nl f (List.mem_of_getElem? hx0); rw [sizeLine_eq]; omega) | exact .mk (lyN (F.take n)) fb.1 (by have := hs.nl fb (List.mem_of_getElem? hn); rw [sizeLine_eq]; omega))) rfl))) (fun hc3 => ?_) (fun hc3 => ?_))
          · skip
            exfalso; rw [hg.n] at hc3; cases hc3
          · skip
            clear hc3
            refine ws_nil ?_
            refine ws_cons (ws_if (td_lend 3 rfl (td_not (td_truth (ed_call G_is_expression_over_z12 (hr.mono (by decide)) (by rfl) (ad_cons (ed_var 3 rfl) (ad_cons (ed_var 5 rfl) (ad_cons (ed_const KC.«GREATEST_DEPTH» (by rfl)) ad_nil))) (by first | exact .mk (lyN (F.take i0)) f.2 12 (by decide) | exact .mk (lyN (F.take n)) fb.2 12 (by decide))) rfl))) (fun hc4 => ?_) (fun hc4 => ?_))
            · skip
              exfalso; rw [show okE (lyN (F.take i0)) (12 : Int).toNat f.2 = true from hg.e] at hc4; cases hc4
            · skip
              clear hc4
              refine ws_nil ?_
              refine ws_cons (ws_append 3 rfl (ed_var 4 rfl) (by have h1 := lyN_len (F.take i0); have h2 := hs.fl; rw [List.length_take] at h1; rw [List.length_map, sizeLine_eq]; omega) ?_ (fun h => ps_expr (pe_bm PySem.F.plainAttrs_list PySem.F.slot_list_append PySem.F.type_list_append mt_append (pv 3) h)))
              walk_at "env"
              refine ws_nil ?_
              rw [lyN_take hx0, List.map_append]
              rfl
        · intro u0
          refine ⟨_, _, (dg_tup rfl (dgs_cons (dg_name 4 nd) (dgs_cons (dg_name 5 nd) dgs_nil))), ?_⟩
          walk_at "env"
          refine xg_ifr (td_lend 3 rfl (td_not (td_truth (ed_call G_is_new_layer (hr.mono (by decide)) (by rfl) (ad_cons (ed_var 3 rfl) (ad_cons (ed_var 4 rfl) ad_nil)) (by first | exact .mk (lyN (F.take i0)) f.1 (by have := hs.nl f (List.mem_of_getElem? hx0); rw [sizeLine_eq]; omega) | exact .mk (lyN (F.take n)) fb.1 (by have := hs.nl fb (List.mem_of_getElem? hn); rw [sizeLine_eq]; omega))) rfl))) (fun hc5 => ?_) (fun hc5 => ?_)
          · skip
            clear hc5
            exact xg_no (xg_head (xg_raise XF.«InvalidDeck» (by rfl) (ad_cons ed_str ad_nil)))
          · skip
            have hn9 := hc5
            refine xg_ifr (td_lend 3 rfl (td_not (td_truth (ed_call G_is_expression_over_z12 (hr.mono (by decide)) (by rfl) (ad_cons (ed_var 3 rfl) (ad_cons (ed_var 5 rfl) (ad_cons (ed_const KC.«GREATEST_DEPTH» (by rfl)) ad_nil))) (by first | exact .mk (lyN (F.take i0)) f.2 12 (by decide) | exact .mk (lyN (F.take n)) fb.2 12 (by decide))) rfl))) (fun hc6 => ?_) (fun hc6 => ?_)
            · skip
              clear hc6
              exact xg_no (xg_head (xg_raise XF.«InvalidDeck» (by rfl) (ad_cons (ed_fs (fs_cons ed_str (fs_cons (by first | exact fm_s (ed_var 4 rfl) (by rw [sizeLine_eq]; have := hs.nl fb (List.mem_of_getElem? hn); omega) | exact fm_i (ed_var 4 rfl) (by walk_at "side")) (fs_cons ed_str fs_nil))) (by simp only [sumL_cons]; have e0 : sumL [] = 0 := rfl; have e1 : ("the expression for " : Str).length = 19 := (by decide +kernel); have e2 : (" is not valid" : Str).length = 13 := (by decide +kernel); have := hs.nl fb (List.mem_of_getElem? hn); rw [sizeLine_eq]; omega)) ad_nil)))
            · skip
              exfalso
              rcases bad with bad | bad
              · rw [bad] at hn9; cases hn9
              · rw [show okE (lyN (F.take n)) (12 : Int).toNat fb.2 = false from bad] at hc6; cases hc6
      · skip
        refine xg_cons (ws_forU (F) (Df.e) rfl (id_list (ed_var 1 rfl)) (by rfl) (U := Sl × Sl) (fun i u => [(3, .ow (.lst ((lyN (F.take i)).map .str))), (4, u.1), (5, u.2)]) (fun r => (r.getD 4 .no, r.getD 5 .no)) (fun _ => True) (rfl) (True.intro) ?_ ?_ (hp := by first | exact passes_of rfl | assumption))
        · intro i0 f u0 hx0 hP0
          have hg := okp i0 f (List.getElem?_eq_some_iff.mp hx0).1 hx0
          refine ⟨_, _, (dg_tup rfl (dgs_cons (dg_name 4 nd) (dgs_cons (dg_name 5 nd) dgs_nil))), ?_⟩
          walk_at "env"
          refine ws_cons (ws_if (td_lend 3 rfl (td_not (td_truth (ed_call G_is_new_layer (hr.mono (by decide)) (by rfl) (ad_cons (ed_var 3 rfl) (ad_cons (ed_var 4 rfl) ad_nil)) (by exact .mk (lyN (F.take i0)) f.1 (by have := hs.nl f (List.mem_of_getElem? hx0); rw [sizeLine_eq]; omega))) rfl))) (fun hc7 => ?_) (fun hc7 => ?_))
          · skip
            exfalso; rw [hg.n] at hc7; cases hc7
          · skip
            clear hc7
            refine ws_nil ?_
            refine ws_cons (ws_if (td_lend 3 rfl (td_not (td_truth (ed_call G_is_expression_over_z12 (hr.mono (by decide)) (by rfl) (ad_cons (ed_var 3 rfl) (ad_cons (ed_var 5 rfl) (ad_cons (ed_const KC.«GREATEST_DEPTH» (by rfl)) ad_nil))) (by exact .mk (lyN (F.take i0)) f.2 12 (by decide))) rfl))) (fun hc8 => ?_) (fun hc8 => ?_))
            · skip
              exfalso; rw [show okE (lyN (F.take i0)) (12 : Int).toNat f.2 = true from hg.e] at hc8; cases hc8
            · skip
              clear hc8
              refine ws_nil ?_
              refine ws_cons (ws_append 3 rfl (ed_var 4 rfl) (by have h1 := lyN_len (F.take i0); have h2 := hs.fl; rw [List.length_take] at h1; rw [List.length_map, sizeLine_eq]; omega) ?_ (fun h => ps_expr (pe_bm PySem.F.plainAttrs_list PySem.F.slot_list_append PySem.F.type_list_append mt_append (pv 3) h)))
              walk_at "env"
              refine ws_nil ?_
              refine ⟨?_, True.intro⟩
              rw [lyN_take hx0, List.map_append]
              rfl
        · intro u0 hP0
          walk_at "env"
          rw [List.take_length]
          refine xg_share 3 rfl ?_
          walk_at "env"
          refine xg_ifr (td_not (td_truth (ed_callB (id := "all") (by rfl) B.«all» bb_all (ad_cons (ed_lst (eo_map2 [("rule", 6)] (Q) (ruX) (fun r : RuX => okRL (lyN F) r.1 r.2.1 r.2.2) (D.bl) rfl nd (blkOk_by (N := ["self", "definitions", "rules", "layers", "name", "expression", "rule"]) (sc := defScope s_Deck_init) (by decide +kernel)) (id_list (ed_var 2 rfl)) (rfl) (fun r hxm => ⟨_, by rfl, fun _ _ _ _ _ => ⟨(dg_name 6 nd), tds_nil, (ed_call G_is_rule_over (hr.mono (by decide)) (by rfl) (ad_cons (ed_var 3 rfl) (ad_cons (ed_var 6 rfl) ad_nil)) (by exact .mk (lyN F) _ _ _ (hs.fm _ hxm)))⟩⟩) (by have := hs.ql; rw [sizeLine_eq]; omega))) ad_nil) (bc_all rfl)) rfl)) (fun hc9 => ?_) (fun hc9 => ?_)
          · skip
            clear hc9
            exact xg_no (xg_head (xg_raise XF.«InvalidDeck» (by rfl) (ad_cons ed_str ad_nil)))
          · skip
            exfalso; have h9 : ((Q.map fun r : RuX => okRL (lyN F) r.1 r.2.1 r.2.2).all id) = true := by simpa using hc9
            rw [List.all_map, List.all_eq_true] at h9
            have := h9 rb hrb
            rw [show (id ∘ fun r : RuX => okRL (lyN F) r.1 r.2.1 r.2.2) rb = okRL (lyN F) rb.1 rb.2.1 rb.2.2 from rfl, bad] at this; cases this
abbrev s_law_cell : Stmt := top 31
theorem sc_law_cell : FnScope ["script", "k"] ["script", "k"] (defScope s_law_cell) := ⟨rfl, rfl, rfl, by decide +kernel, rfl, by decide +kernel, by decide +kernel⟩
theorem ok_law_cell {f : Addr} {fd : FuncData} (F : Fun K "_law_cell" "_law_cell" s_law_cell f fd) (B : Bt mg) (KC : Kt K mg) (KL : Lt K mg) (WD : Zdt K w mg) (XF : Xt K mg)  :
    FnOk P w K mg base CX0 1 f fd ["script", "k"] (spR K R_law_cell) := by
  refine fn_ok (k := 0) F sc_law_cell (fun ds d h => by cases h; rfl) fun ds d hR cdv A outer s H E hr => ?_
  have nd := sc_law_cell.nd
  have hu := hr.units
  rcases hR with ⟨ns, k, h0⟩
  walk_at "en"
  refine ws_cons (ws_if (td_cmp (ed_var 1 rfl) (ed_callB (id := "len") (by rfl) B.«len» bb_len (ad_cons (ed_var 0 rfl) ad_nil) (by walk_at "bc")) (by walk_at "c2")) (fun hc1 => ?_) (fun hc1 => ?_))
  · skip
    simp only [decide_eq_true_eq, List.length_map] at hc1
    refine ws_cons (ws_ret (ED.eq (ed_ix (ed_var 0 rfl) (ed_var 1 rfl) (IX.l (at_ints (k := k.toNat) (x := cellAt ns k) (by omega) (by unfold cellAt; simp [show k.toNat < ns.length by omega])))) ?_) (Or.inl rfl))
    rfl
  · skip
    simp only [decide_eq_false_iff_not, List.length_map] at hc1
    refine ws_nil ?_
    refine ws_cons (ws_ret (ED.eq ed_int ?_) (Or.inl rfl))
    unfold cellAt; rw [List.getD_eq_getElem?_getD, List.getElem?_eq_none (by omega)]; rfl
abbrev s_law_draws : Stmt := top 32
theorem sc_law_draws : FnScope ["cell", "count", "rows", "left", "k", "mixed"] ["cell", "count"] (defScope s_law_draws) := ⟨rfl, rfl, rfl, by decide +kernel, rfl, by decide +kernel, by decide +kernel⟩
theorem ok_law_draws {f : Addr} {fd : FuncData} (F : Fun K "_law_draws" "_law_draws" s_law_draws f fd) (B : Bt mg) (KC : Kt K mg) (KL : Lt K mg) (WD : Zdt K w mg) (XF : Xt K mg)  :
    FnOk P w K mg base CX0 1 f fd ["cell", "count"] (spR K R_law_draws) := by
  refine fn_ok (k := 0) F sc_law_draws (fun ds d h => by cases h; rfl) fun ds d hR cdv A outer s H E hr => ?_
  have nd := sc_law_draws.nd
  have hu := hr.units
  rcases hR with ⟨c, n, h0, h1⟩
  walk_at "en"
  refine ws_cons (ws_setO 2 nd (eo_lst ad_nil) ?_)
  walk_at "env"
  refine ws_cons (ws_set 3 nd (ed_var 0 rfl) ?_)
  walk_at "env"
  refine ws_cons (ws_forU (List.range n.toNat) (fun (i : Nat) => D.int (i : Int)) rfl (id_range1 (by rfl) B.«range» (ed_var 1 rfl) (by walk_at "side")) (by exact rngD0 _) (U := Sl × Sl) (fun i u => [(2, .ow (.lst ((drawn c i).1.map D.int))), (3, .sh (.int (drawn c i).2)), (4, u.1), (5, u.2)]) (fun r => (r.getD 4 .no, r.getD 5 .no)) (fun _ => True) (rfl) (True.intro) ?_ ?_)
  · intro i0 t u0 hx0 hP0
    obtain rfl : i0 = t := by
      obtain ⟨hl, he⟩ := List.getElem?_eq_some_iff.mp hx0
      rw [List.getElem_range] at he; exact he
    refine ⟨_, _, (dg_name 4 nd), ?_⟩
    walk_at "env"
    refine ws_cons (ws_if (td_tw (tw_and (td_cmp (ed_var 0 rfl) (ed_bin ed_int ed_int (b2_powL (n := 1000000000000000000) ⟨by decide, by decide, by decide⟩ (by decide))) (by walk_at "c2")) (fun hb2 => (tw_and1 (td_cmp (ed_var 3 rfl) ed_int (by walk_at "c2")))))) (fun hc1 => ?_) (fun hc1 => ?_))
    · skip
      simp only [Bool.and_eq_true, decide_eq_true_eq] at hc1
      have e : drawn c (i0 + 1) = ((drawn c i0).1 ++ [(drawn c i0).2 % 4096], (drawn c i0).2 / 4096) := by
        rw [drawn_succ]; unfold drawStep; rw [if_pos hc1]
      refine ws_cons (ws_append 2 rfl (ed_bin (ed_callT (T := "int") (by rfl) B.«int» bb_int (ad_cons (ed_var 3 rfl) ad_nil) (by walk_at "bc")) ed_int (by walk_at "b2")) (by rw [List.length_map, (draws_spec c i0).1, sizeLine_eq]; have := (List.getElem?_eq_some_iff.mp hx0).1; rw [List.length_range] at this; omega) ?_ (fun h => ps_expr (pe_bm PySem.F.plainAttrs_list PySem.F.slot_list_append PySem.F.type_list_append mt_append (pv 2) h)))
      walk_at "env"
      refine ws_cons (ws_set 3 nd (ed_bin (ed_var 3 rfl) ed_int (by walk_at "b2")) ?_)
      walk_at "env"
      refine ws_nil ?_
      refine ws_nil ?_
      refine ⟨?_, True.intro⟩
      rw [e, List.map_append]
      rfl
    · skip
      have e : drawn c (i0 + 1) = ((drawn c i0).1 ++ [mix3 c i0 / 7 % 4096], (drawn c i0).2) := by
        rw [drawn_succ]; unfold drawStep; rw [if_neg]; intro z; rw [decide_eq_true z.1, decide_eq_true z.2] at hc1; cases hc1
      refine ws_cons (ws_set 5 nd (ed_bin (ed_callT (T := "int") (by rfl) B.«int» bb_int (ad_cons (ed_bin (ed_bin (ed_var 0 rfl) ed_int (by walk_at "b2")) (ed_bin (ed_bin (ed_var 4 rfl) ed_int (by walk_at "b2")) ed_int (by walk_at "b2")) (by walk_at "b2")) ad_nil) (by walk_at "bc")) ed_int (by walk_at "b2")) ?_)
      walk_at "env"
      refine ws_cons (ws_set 5 nd (ed_bin (ed_callT (T := "int") (by rfl) B.«int» bb_int (ad_cons (ed_bin (ed_bin (ed_bin (ed_var 5 rfl) (ed_var 5 rfl) (by walk_at "b2")) (ed_bin (ed_var 5 rfl) ed_int (by walk_at "b2")) (by walk_at "b2")) (ed_bin (ed_var 4 rfl) ed_int (by walk_at "b2")) (by walk_at "b2")) ad_nil) (by walk_at "bc")) ed_int (by walk_at "b2")) ?_)
      walk_at "env"
      refine ws_cons (ws_set 5 nd (ed_bin (ed_callT (T := "int") (by rfl) B.«int» bb_int (ad_cons (ed_bin (ed_bin (ed_bin (ed_var 5 rfl) (ed_var 5 rfl) (by walk_at "b2")) (ed_var 0 rfl) (by walk_at "b2")) (ed_bin ed_int (ed_var 4 rfl) (by walk_at "b2")) (by walk_at "b2")) ad_nil) (by walk_at "bc")) ed_int (by walk_at "b2")) ?_)
      walk_at "env"
      refine ws_cons (ws_append 2 rfl (ed_bin (ed_bin (ed_var 5 rfl) ed_int (by walk_at "b2")) ed_int (by walk_at "b2")) (by rw [List.length_map, (draws_spec c i0).1, sizeLine_eq]; have := (List.getElem?_eq_some_iff.mp hx0).1; rw [List.length_range] at this; omega) ?_ (fun h => ps_expr (pe_bm PySem.F.plainAttrs_list PySem.F.slot_list_append PySem.F.type_list_append mt_append (pv 2) h)))
      walk_at "env"
      refine ws_nil ?_
      refine ws_nil ?_
      refine ⟨?_, True.intro⟩
      rw [e, List.map_append]
      rfl
  · intro u0 hP0
    walk_at "env"
    rw [List.length_range]
    refine ws_share 2 rfl ?_
    refine ws_cons (ws_ret (ED.eq (ed_var 2 rfl) ?_) (Or.inl rfl))
    rfl
abbrev s_law_is_int : Stmt := top 33
theorem sc_law_is_int : FnScope ["x"] ["x"] (defScope s_law_is_int) := ⟨rfl, rfl, rfl, by decide +kernel, rfl, by decide +kernel, by decide +kernel⟩
theorem ok_law_is_int {f : Addr} {fd : FuncData} (F : Fun K "_law_is_int" "_law_is_int" s_law_is_int f fd) (B : Bt mg) (KC : Kt K mg) (KL : Lt K mg) (WD : Zdt K w mg) (XF : Xt K mg)  :
    FnOk P w K mg base CX0 1 f fd ["x"] (spR K R_law_is_int) := by
  refine fn_ok (k := 0) F sc_law_is_int (fun ds d h => by cases h; rfl) fun ds d hR cdv A outer s H E hr => ?_
  have nd := sc_law_is_int.nd
  have hu := hr.units
  cases hR
  walk_at "en"
  refine ws_cons (ws_ret (ED.eq (ed_and (ed_callB (id := "isinstance") (by rfl) B.«isinstance» bb_isinstance (ad_cons (ed_var 0 rfl) (ad_cons (ed_ty (n := "int") (by rfl) B.«int» bb_int) ad_nil)) (bc_isi (c := "int") (by rfl) (by rfl))) (fun hb1 => (ed_one (ed_not (ed_callB (id := "isinstance") (by rfl) B.«isinstance» bb_isinstance (ad_cons (ed_var 0 rfl) (ad_cons (ed_ty (n := "bool") (by rfl) B.«bool» bb_bool) ad_nil)) (bc_isi (c := "bool") (by rfl) (by rfl))))))) ?_) (Or.inl rfl))
  rfl
abbrev s_law_is_number : Stmt := top 34
theorem sc_law_is_number : FnScope ["x", "due"] ["x", "due"] (defScope s_law_is_number) := ⟨rfl, rfl, rfl, by decide +kernel, rfl, by decide +kernel, by decide +kernel⟩
theorem ok_law_is_number {f : Addr} {fd : FuncData} (F : Fun K "_law_is_number" "_law_is_number" s_law_is_number f fd) (B : Bt mg) (KC : Kt K mg) (KL : Lt K mg) (WD : Zdt K w mg) (XF : Xt K mg) (G_law_is_int : Fn P w K mg base "_law_is_int" 1 R_law_is_int) :
    FnOk P w K mg base CX0 2 f fd ["x", "due"] (spR K R_law_is_number) := by
  refine fn_ok (k := 1) F sc_law_is_number (fun ds d h => by cases h; rfl) fun ds d hR cdv A outer s H E hr => ?_
  have nd := sc_law_is_number.nd
  have hu := hr.units
  rcases hR with ⟨i, j⟩
  walk_at "en"
  refine ws_cons (ws_ret (ED.eq (ed_and (ed_call G_law_is_int (hr.mono (by decide)) (by rfl) (ad_cons (ed_var 0 rfl) ad_nil) (by walk_at "mk")) (fun hb1 => (ed_one (ed_cmp (ed_var 0 rfl) (ed_var 1 rfl) (by walk_at "c2"))))) ?_) (Or.inl rfl))
  simp
abbrev s_law_layers : Stmt := top 35
theorem sc_law_layers : FnScope [] [] (defScope s_law_layers) := ⟨rfl, rfl, rfl, by decide +kernel, rfl, by decide +kernel, by decide +kernel⟩
theorem ok_law_layers {f : Addr} {fd : FuncData} (F : Fun K "_law_layers" "_law_layers" s_law_layers f fd) (B : Bt mg) (KC : Kt K mg) (KL : Lt K mg) (WD : Zdt K w mg) (XF : Xt K mg)  :
    FnOk P w K mg base CX0 1 f fd [] (spR K R_law_layers) := by
  refine fn_ok (k := 0) F sc_law_layers (fun ds d h => by cases h; rfl) fun ds d hR cdv A outer s H E hr => ?_
  have nd := sc_law_layers.nd
  have hu := hr.units
  cases hR
  walk_at "en"
  refine ws_cons (ws_ret (ED.eq (ED.eq (ed_lst (eo_lst (ad_cons ed_str (ad_cons ed_str (ad_cons ed_str (ad_cons ed_str (ad_cons ed_str (ad_cons ed_str (ad_cons ed_str ad_nil))))))))) (show _ = (D.lst (lays.map .str)) from by rfl)) ?_) (Or.inl rfl))
  rfl
abbrev s_law_name : Stmt := top 36
theorem sc_law_name : FnScope ["draw", "letters", "tail"] ["draw"] (defScope s_law_name) := ⟨rfl, rfl, rfl, by decide +kernel, rfl, by decide +kernel, by decide +kernel⟩
theorem ok_law_name {f : Addr} {fd : FuncData} (F : Fun K "_law_name" "_law_name" s_law_name f fd) (B : Bt mg) (KC : Kt K mg) (KL : Lt K mg) (WD : Zdt K w mg) (XF : Xt K mg)  :
    FnOk P w K mg base CX0 1 f fd ["draw"] (spR K R_law_name) := by
  refine fn_ok (k := 0) F sc_law_name (fun ds d h => by cases h; rfl) fun ds d hR cdv A outer s H E hr => ?_
  have nd := sc_law_name.nd
  have hu := hr.units
  rcases hR with ⟨d, hd⟩
  walk_at "en"
  refine ws_cons (ws_set 1 nd ed_str ?_)
  walk_at "env"
  refine ws_cons (ws_setO 2 nd (eo_lst (ad_cons ed_str (ad_cons ed_str (ad_cons ed_str (ad_cons ed_str (ad_cons ed_str (ad_cons ed_str ad_nil))))))) ?_)
  refine ws_share 2 rfl ?_
  walk_at "env"
  refine ws_cons (ws_ret (ED.eq (ed_bin (ed_ixS (ed_var 1 rfl) (ed_bin (ed_var 0 rfl) ed_int (by walk_at "b2")) (by decide +kernel) (at_ltr (by omega) (by omega))) (ed_ix (ed_var 2 rfl) (ed_bin (ed_bin (ed_var 0 rfl) ed_int (by walk_at "b2")) ed_int (by walk_at "b2")) (.l (at_tls (by omega) (by omega)))) (b2_addS (by have := tls_len (d / 26 % 6).toNat; rw [sizeLine_eq]; show 1 + _ ≤ _; omega))) ?_) (Or.inl rfl))
  rfl
abbrev s_law_like_int : Stmt := top 37
theorem sc_law_like_int : FnScope ["actual", "due", "k"] ["actual", "due"] (defScope s_law_like_int) := ⟨rfl, rfl, rfl, by decide +kernel, rfl, by decide +kernel, by decide +kernel⟩
theorem ok_law_like_int {f : Addr} {fd : FuncData} (F : Fun K "_law_like" "_law_like" s_law_like_int f fd) (B : Bt mg) (KC : Kt K mg) (KL : Lt K mg) (WD : Zdt K w mg) (XF : Xt K mg)  :
    FnOk P w K mg base CX0 1 f fd ["actual", "due"] (spR K R_law_like_int) := by
  refine fn_ok (k := 0) F sc_law_like_int (fun ds d h => by cases h; rfl) fun ds d hR cdv A outer s H E hr => ?_
  have nd := sc_law_like_int.nd
  have hu := hr.units
  rcases hR with ⟨i⟩
  walk_at "en"
  refine ws_cons (ws_if (td_cmp (ed_var 1 rfl) ed_non (by walk_at "c2")) (fun hc1 => ?_) (fun hc1 => ?_))
  · skip
    cases hc1
  · skip
    clear hc1
    refine ws_nil ?_
    refine ws_cons (ws_if (td_truth (ed_callB (id := "isinstance") (by rfl) B.«isinstance» bb_isinstance (ad_cons (ed_var 1 rfl) (ad_cons (ed_ty (n := "bool") (by rfl) B.«bool» bb_bool) ad_nil)) (bc_isi (c := "bool") (by rfl) (by rfl))) rfl) (fun hc2 => ?_) (fun hc2 => ?_))
    · skip
      cases hc2
    · skip
      clear hc2
      refine ws_nil ?_
      refine ws_cons (ws_if (td_truth (ed_callB (id := "isinstance") (by rfl) B.«isinstance» bb_isinstance (ad_cons (ed_var 1 rfl) (ad_cons (ed_ty (n := "str") (by rfl) B.«str» bb_str) ad_nil)) (bc_isi (c := "str") (by rfl) (by rfl))) rfl) (fun hc3 => ?_) (fun hc3 => ?_))
      · skip
        cases hc3
      · skip
        clear hc3
        refine ws_nil ?_
        refine ws_cons (ws_if (td_truth (ed_callB (id := "isinstance") (by rfl) B.«isinstance» bb_isinstance (ad_cons (ed_var 1 rfl) (ad_cons (ed_ty (n := "int") (by rfl) B.«int» bb_int) ad_nil)) (bc_isi (c := "int") (by rfl) (by rfl))) rfl) (fun hc4 => ?_) (fun hc4 => ?_))
        · skip
          clear hc4
          refine ws_cons (ws_ret (ED.eq (ed_and (ed_callB (id := "isinstance") (by rfl) B.«isinstance» bb_isinstance (ad_cons (ed_var 0 rfl) (ad_cons (ed_ty (n := "int") (by rfl) B.«int» bb_int) ad_nil)) (bc_isi (c := "int") (by rfl) (by rfl))) (fun hb6 => (ed_and (ed_not (ed_callB (id := "isinstance") (by rfl) B.«isinstance» bb_isinstance (ad_cons (ed_var 0 rfl) (ad_cons (ed_ty (n := "bool") (by rfl) B.«bool» bb_bool) ad_nil)) (bc_isi (c := "bool") (by rfl) (by rfl)))) (fun hb5 => (ed_one (ed_cmp (ed_var 0 rfl) (ed_var 1 rfl) (by walk_at "c2"))))))) ?_) (Or.inl rfl))
          rw [decide_eq_true (rfl : i = i)]
          rfl
        · skip
          cases hc4
abbrev s_law_like_str : Stmt := top 37
theorem sc_law_like_str : FnScope ["actual", "due", "k"] ["actual", "due"] (defScope s_law_like_str) := ⟨rfl, rfl, rfl, by decide +kernel, rfl, by decide +kernel, by decide +kernel⟩
theorem ok_law_like_str {f : Addr} {fd : FuncData} (F : Fun K "_law_like" "_law_like" s_law_like_str f fd) (B : Bt mg) (KC : Kt K mg) (KL : Lt K mg) (WD : Zdt K w mg) (XF : Xt K mg)  :
    FnOk P w K mg base CX0 2 f fd ["actual", "due"] (spR K R_law_like_str) := by
  refine fn_ok (k := 1) F sc_law_like_str (fun ds d h => by cases h; rfl) fun ds d hR cdv A outer s H E hr => ?_
  have nd := sc_law_like_str.nd
  have hu := hr.units
  rcases hR with ⟨z⟩
  walk_at "en"
  refine ws_cons (ws_if (td_cmp (ed_var 1 rfl) ed_non (by walk_at "c2")) (fun hc1 => ?_) (fun hc1 => ?_))
  · skip
    cases hc1
  · skip
    clear hc1
    refine ws_nil ?_
    refine ws_cons (ws_if (td_truth (ed_callB (id := "isinstance") (by rfl) B.«isinstance» bb_isinstance (ad_cons (ed_var 1 rfl) (ad_cons (ed_ty (n := "bool") (by rfl) B.«bool» bb_bool) ad_nil)) (bc_isi (c := "bool") (by rfl) (by rfl))) rfl) (fun hc2 => ?_) (fun hc2 => ?_))
    · skip
      cases hc2
    · skip
      clear hc2
      refine ws_nil ?_
      refine ws_cons (ws_if (td_truth (ed_callB (id := "isinstance") (by rfl) B.«isinstance» bb_isinstance (ad_cons (ed_var 1 rfl) (ad_cons (ed_ty (n := "str") (by rfl) B.«str» bb_str) ad_nil)) (bc_isi (c := "str") (by rfl) (by rfl))) rfl) (fun hc3 => ?_) (fun hc3 => ?_))
      · skip
        clear hc3
        refine ws_cons (ws_ret (ED.eq (ed_and (ed_callB (id := "isinstance") (by rfl) B.«isinstance» bb_isinstance (ad_cons (ed_var 0 rfl) (ad_cons (ed_ty (n := "str") (by rfl) B.«str» bb_str) ad_nil)) (bc_isi (c := "str") (by rfl) (by rfl))) (fun hb4 => (ed_one (ed_cmp (ed_var 0 rfl) (ed_var 1 rfl) (by walk_at "c2"))))) ?_) (Or.inl rfl))
        rw [decide_eq_true (rfl : z = z)]
        rfl
      · skip
        cases hc3
abbrev s_law_like_m1 : Stmt := top 37
theorem sc_law_like_m1 : FnScope ["actual", "due", "k"] ["actual", "due"] (defScope s_law_like_m1) := ⟨rfl, rfl, rfl, by decide +kernel, rfl, by decide +kernel, by decide +kernel⟩
theorem ok_law_like_m1 {f : Addr} {fd : FuncData} (F : Fun K "_law_like" "_law_like" s_law_like_m1 f fd) (B : Bt mg) (KC : Kt K mg) (KL : Lt K mg) (WD : Zdt K w mg) (XF : Xt K mg) (G_law_like_int : Fn P w K mg base "_law_like" 1 R_law_like_int) (G_law_like_str : Fn P w K mg base "_law_like" 2 R_law_like_str) :
    FnOk P w K mg base CX0 3 f fd ["actual", "due"] (spR K R_law_like_m1) := by
  refine fn_ok (k := 2) F sc_law_like_m1 (fun ds d h => by cases h; rfl) fun ds d hR cdv A outer s H E hr => ?_
  have nd := sc_law_like_m1.nd
  have hu := hr.units
  rcases hR with ⟨ds, hn, hlf⟩
  walk_at "en"
  refine ws_cons (ws_if (td_cmp (ed_var 1 rfl) ed_non (by walk_at "c2")) (fun hc1 => ?_) (fun hc1 => ?_))
  · skip
    cases hc1
  · skip
    clear hc1
    refine ws_nil ?_
    refine ws_cons (ws_if (td_truth (ed_callB (id := "isinstance") (by rfl) B.«isinstance» bb_isinstance (ad_cons (ed_var 1 rfl) (ad_cons (ed_ty (n := "bool") (by rfl) B.«bool» bb_bool) ad_nil)) (bc_isi (c := "bool") (by rfl) (by rfl))) rfl) (fun hc2 => ?_) (fun hc2 => ?_))
    · skip
      cases hc2
    · skip
      clear hc2
      refine ws_nil ?_
      refine ws_cons (ws_if (td_truth (ed_callB (id := "isinstance") (by rfl) B.«isinstance» bb_isinstance (ad_cons (ed_var 1 rfl) (ad_cons (ed_ty (n := "str") (by rfl) B.«str» bb_str) ad_nil)) (bc_isi (c := "str") (by rfl) (by rfl))) rfl) (fun hc3 => ?_) (fun hc3 => ?_))
      · skip
        cases hc3
      · skip
        clear hc3
        refine ws_nil ?_
        refine ws_cons (ws_if (td_truth (ed_callB (id := "isinstance") (by rfl) B.«isinstance» bb_isinstance (ad_cons (ed_var 1 rfl) (ad_cons (ed_ty (n := "int") (by rfl) B.«int» bb_int) ad_nil)) (bc_isi (c := "int") (by rfl) (by rfl))) rfl) (fun hc4 => ?_) (fun hc4 => ?_))
        · skip
          cases hc4
        · skip
          clear hc4
          refine ws_nil ?_
          refine ws_cons (ws_if (td_tw (tw_or (td_cmp (ed_callB (id := "isinstance") (by rfl) B.«isinstance» bb_isinstance (ad_cons (ed_var 1 rfl) (ad_cons (ed_ty (n := "list") (by rfl) B.«list» bb_list) ad_nil)) (bc_isi (c := "list") (by rfl) (by rfl))) (ed_callB (id := "isinstance") (by rfl) B.«isinstance» bb_isinstance (ad_cons (ed_var 0 rfl) (ad_cons (ed_ty (n := "list") (by rfl) B.«list» bb_list) ad_nil)) (bc_isi (c := "list") (by rfl) (by rfl))) (by walk_at "c2")) (fun hb6 => (tw_or1 (td_cmp (ed_callB (id := "isinstance") (by rfl) B.«isinstance» bb_isinstance (ad_cons (ed_var 1 rfl) (ad_cons (ed_ty (n := "tuple") (by rfl) B.«tuple» bb_tuple) ad_nil)) (bc_isi (c := "tuple") (by rfl) (by rfl))) (ed_callB (id := "isinstance") (by rfl) B.«isinstance» bb_isinstance (ad_cons (ed_var 0 rfl) (ad_cons (ed_ty (n := "tuple") (by rfl) B.«tuple» bb_tuple) ad_nil)) (bc_isi (c := "tuple") (by rfl) (by rfl))) (by walk_at "c2")))))) (fun hc5 => ?_) (fun hc5 => ?_))
          · skip
            exact absurd hc5 (by decide)
          · skip
            clear hc5
            refine ws_nil ?_
            refine ws_cons (ws_if (td_cmp (ed_callB (id := "len") (by rfl) B.«len» bb_len (ad_cons (ed_var 0 rfl) ad_nil) (by walk_at "bc")) (ed_callB (id := "len") (by rfl) B.«len» bb_len (ad_cons (ed_var 1 rfl) ad_nil) (by walk_at "bc")) (by walk_at "c2")) (fun hc7 => ?_) (fun hc7 => ?_))
            · skip
              exfalso; simp at hc7
            · skip
              clear hc7
              refine ws_nil ?_
              refine ws_cons (ws_ret (ED.eq (ed_callB (id := "all") (by rfl) B.«all» bb_all (ad_cons (ed_lst (eo_map2 [("k", 2)] (List.range ds.length) (fun (i : Nat) => D.int (i : Int)) (fun _ => true) (D.bl) rfl nd (blkOk_by (N := ["actual", "due", "k"]) (sc := defScope s_law_like_m1) (by decide +kernel)) (id_range1 (by rfl) B.«range» (ed_callB (id := "len") (by rfl) B.«len» bb_len (ad_cons (ed_var 1 rfl) ad_nil) (by walk_at "bc")) (by omega)) (by rw [Int.toNat_natCast]; exact rngD0 _) (fun x hxm => by have hx2 := List.mem_range.mp hxm; exact ⟨_, by rfl, fun _ _ _ _ _ => ⟨(dg_name 2 nd), tds_nil, (by rcases md_cases (hlf _ (List.getElem_mem hx2)) with ⟨i, e⟩ | ⟨z, e⟩ <;> first | exact (ed_call G_law_like_int (hr.mono (by decide)) (by rfl) (ad_cons (ed_ix (d := ds[x]) (ed_var 0 rfl) (ed_var 2 rfl) (.t (atI_nat (by simp [hx2])))) (ad_cons (ed_ix (d := ds[x]) (ed_var 1 rfl) (ed_var 2 rfl) (.t (atI_nat (by simp [hx2])))) ad_nil)) (by rw [e]; exact .mk _)) | exact (ed_call G_law_like_str (hr.mono (by decide)) (by rfl) (ad_cons (ed_ix (d := ds[x]) (ed_var 0 rfl) (ed_var 2 rfl) (.t (atI_nat (by simp [hx2])))) (ad_cons (ed_ix (d := ds[x]) (ed_var 1 rfl) (ed_var 2 rfl) (.t (atI_nat (by simp [hx2])))) ad_nil)) (by rw [e]; exact .mk _)) )⟩⟩) (by rw [List.length_range, sizeLine_eq]; omega))) ad_nil) (bc_all rfl)) ?_) (Or.inl rfl))
              simp
abbrev s_law_like_m2 : Stmt := top 37
theorem sc_law_like_m2 : FnScope ["actual", "due", "k"] ["actual", "due"] (defScope s_law_like_m2) := ⟨rfl, rfl, rfl, by decide +kernel, rfl, by decide +kernel, by decide +kernel⟩
theorem ok_law_like_m2 {f : Addr} {fd : FuncData} (F : Fun K "_law_like" "_law_like" s_law_like_m2 f fd) (B : Bt mg) (KC : Kt K mg) (KL : Lt K mg) (WD : Zdt K w mg) (XF : Xt K mg) (G_law_like_int : Fn P w K mg base "_law_like" 1 R_law_like_int) (G_law_like_m1 : Fn P w K mg base "_law_like" 3 R_law_like_m1) (G_law_like_str : Fn P w K mg base "_law_like" 2 R_law_like_str) :
    FnOk P w K mg base CX0 4 f fd ["actual", "due"] (spR K R_law_like_m2) := by
  refine fn_ok (k := 3) F sc_law_like_m2 (fun ds d h => by cases h; rfl) fun ds d hR cdv A outer s H E hr => ?_
  have nd := sc_law_like_m2.nd
  have hu := hr.units
  rcases hR with ⟨ds, hn, hlf⟩
  walk_at "en"
  refine ws_cons (ws_if (td_cmp (ed_var 1 rfl) ed_non (by walk_at "c2")) (fun hc1 => ?_) (fun hc1 => ?_))
  · skip
    cases hc1
  · skip
    clear hc1
    refine ws_nil ?_
    refine ws_cons (ws_if (td_truth (ed_callB (id := "isinstance") (by rfl) B.«isinstance» bb_isinstance (ad_cons (ed_var 1 rfl) (ad_cons (ed_ty (n := "bool") (by rfl) B.«bool» bb_bool) ad_nil)) (bc_isi (c := "bool") (by rfl) (by rfl))) rfl) (fun hc2 => ?_) (fun hc2 => ?_))
    · skip
      cases hc2
    · skip
      clear hc2
      refine ws_nil ?_
      refine ws_cons (ws_if (td_truth (ed_callB (id := "isinstance") (by rfl) B.«isinstance» bb_isinstance (ad_cons (ed_var 1 rfl) (ad_cons (ed_ty (n := "str") (by rfl) B.«str» bb_str) ad_nil)) (bc_isi (c := "str") (by rfl) (by rfl))) rfl) (fun hc3 => ?_) (fun hc3 => ?_))
      · skip
        cases hc3
      · skip
        clear hc3
        refine ws_nil ?_
        refine ws_cons (ws_if (td_truth (ed_callB (id := "isinstance") (by rfl) B.«isinstance» bb_isinstance (ad_cons (ed_var 1 rfl) (ad_cons (ed_ty (n := "int") (by rfl) B.«int» bb_int) ad_nil)) (bc_isi (c := "int") (by rfl) (by rfl))) rfl) (fun hc4 => ?_) (fun hc4 => ?_))
        · skip
          cases hc4
        · skip
          clear hc4
          refine ws_nil ?_
          refine ws_cons (ws_if (td_tw (tw_or (td_cmp (ed_callB (id := "isinstance") (by rfl) B.«isinstance» bb_isinstance (ad_cons (ed_var 1 rfl) (ad_cons (ed_ty (n := "list") (by rfl) B.«list» bb_list) ad_nil)) (bc_isi (c := "list") (by rfl) (by rfl))) (ed_callB (id := "isinstance") (by rfl) B.«isinstance» bb_isinstance (ad_cons (ed_var 0 rfl) (ad_cons (ed_ty (n := "list") (by rfl) B.«list» bb_list) ad_nil)) (bc_isi (c := "list") (by rfl) (by rfl))) (by walk_at "c2")) (fun hb6 => (tw_or1 (td_cmp (ed_callB (id := "isinstance") (by rfl) B.«isinstance» bb_isinstance (ad_cons (ed_var 1 rfl) (ad_cons (ed_ty (n := "tuple") (by rfl) B.«tuple» bb_tuple) ad_nil)) (bc_isi (c := "tuple") (by rfl) (by rfl))) (ed_callB (id := "isinstance") (by rfl) B.«isinstance» bb_isinstance (ad_cons (ed_var 0 rfl) (ad_cons (ed_ty (n := "tuple") (by rfl) B.«tuple» bb_tuple) ad_nil)) (bc_isi (c := "tuple") (by rfl) (by rfl))) (by walk_at "c2")))))) (fun hc5 => ?_) (fun hc5 => ?_))
          · skip
            exact absurd hc5 (by decide)
          · skip
            clear hc5
            refine ws_nil ?_
            refine ws_cons (ws_if (td_cmp (ed_callB (id := "len") (by rfl) B.«len» bb_len (ad_cons (ed_var 0 rfl) ad_nil) (by walk_at "bc")) (ed_callB (id := "len") (by rfl) B.«len» bb_len (ad_cons (ed_var 1 rfl) ad_nil) (by walk_at "bc")) (by walk_at "c2")) (fun hc7 => ?_) (fun hc7 => ?_))
            · skip
              exfalso; simp at hc7
            · skip
              clear hc7
              refine ws_nil ?_
              refine ws_cons (ws_ret (ED.eq (ed_callB (id := "all") (by rfl) B.«all» bb_all (ad_cons (ed_lst (eo_map2 [("k", 2)] (List.range ds.length) (fun (i : Nat) => D.int (i : Int)) (fun _ => true) (D.bl) rfl nd (blkOk_by (N := ["actual", "due", "k"]) (sc := defScope s_law_like_m2) (by decide +kernel)) (id_range1 (by rfl) B.«range» (ed_callB (id := "len") (by rfl) B.«len» bb_len (ad_cons (ed_var 1 rfl) ad_nil) (by walk_at "bc")) (by omega)) (by rw [Int.toNat_natCast]; exact rngD0 _) (fun x hxm => by have hx2 := List.mem_range.mp hxm; exact ⟨_, by rfl, fun _ _ _ _ _ => ⟨(dg_name 2 nd), tds_nil, (by rcases md_cases (hlf _ (List.getElem_mem hx2)) with ⟨i, e⟩ | ⟨z, e⟩ | ⟨es, e, e2, e3⟩ <;> first | exact (ed_call G_law_like_int (hr.mono (by decide)) (by rfl) (ad_cons (ed_ix (d := ds[x]) (ed_var 0 rfl) (ed_var 2 rfl) (.t (atI_nat (by simp [hx2])))) (ad_cons (ed_ix (d := ds[x]) (ed_var 1 rfl) (ed_var 2 rfl) (.t (atI_nat (by simp [hx2])))) ad_nil)) (by rw [e]; exact .mk _)) | exact (ed_call G_law_like_str (hr.mono (by decide)) (by rfl) (ad_cons (ed_ix (d := ds[x]) (ed_var 0 rfl) (ed_var 2 rfl) (.t (atI_nat (by simp [hx2])))) (ad_cons (ed_ix (d := ds[x]) (ed_var 1 rfl) (ed_var 2 rfl) (.t (atI_nat (by simp [hx2])))) ad_nil)) (by rw [e]; exact .mk _)) | exact (ed_call G_law_like_m1 (hr.mono (by decide)) (by rfl) (ad_cons (ed_ix (d := ds[x]) (ed_var 0 rfl) (ed_var 2 rfl) (.t (atI_nat (by simp [hx2])))) (ad_cons (ed_ix (d := ds[x]) (ed_var 1 rfl) (ed_var 2 rfl) (.t (atI_nat (by simp [hx2])))) ad_nil)) (by rw [e]; exact .mk _ e2 e3)))⟩⟩) (by rw [List.length_range, sizeLine_eq]; omega))) ad_nil) (bc_all rfl)) ?_) (Or.inl rfl))
              simp
abbrev s_law_like_m3 : Stmt := top 37
theorem sc_law_like_m3 : FnScope ["actual", "due", "k"] ["actual", "due"] (defScope s_law_like_m3) := ⟨rfl, rfl, rfl, by decide +kernel, rfl, by decide +kernel, by decide +kernel⟩
theorem ok_law_like_m3 {f : Addr} {fd : FuncData} (F : Fun K "_law_like" "_law_like" s_law_like_m3 f fd) (B : Bt mg) (KC : Kt K mg) (KL : Lt K mg) (WD : Zdt K w mg) (XF : Xt K mg) (G_law_like_int : Fn P w K mg base "_law_like" 1 R_law_like_int) (G_law_like_m2 : Fn P w K mg base "_law_like" 4 R_law_like_m2) (G_law_like_str : Fn P w K mg base "_law_like" 2 R_law_like_str) :
    FnOk P w K mg base CX0 5 f fd ["actual", "due"] (spR K R_law_like_m3) := by
  refine fn_ok (k := 4) F sc_law_like_m3 (fun ds d h => by cases h; rfl) fun ds d hR cdv A outer s H E hr => ?_
  have nd := sc_law_like_m3.nd
  have hu := hr.units
  rcases hR with ⟨ds, hn, hlf⟩
  walk_at "en"
  refine ws_cons (ws_if (td_cmp (ed_var 1 rfl) ed_non (by walk_at "c2")) (fun hc1 => ?_) (fun hc1 => ?_))
  · skip
    cases hc1
  · skip
    clear hc1
    refine ws_nil ?_
    refine ws_cons (ws_if (td_truth (ed_callB (id := "isinstance") (by rfl) B.«isinstance» bb_isinstance (ad_cons (ed_var 1 rfl) (ad_cons (ed_ty (n := "bool") (by rfl) B.«bool» bb_bool) ad_nil)) (bc_isi (c := "bool") (by rfl) (by rfl))) rfl) (fun hc2 => ?_) (fun hc2 => ?_))
    · skip
      cases hc2
    · skip
      clear hc2
      refine ws_nil ?_
      refine ws_cons (ws_if (td_truth (ed_callB (id := "isinstance") (by rfl) B.«isinstance» bb_isinstance (ad_cons (ed_var 1 rfl) (ad_cons (ed_ty (n := "str") (by rfl) B.«str» bb_str) ad_nil)) (bc_isi (c := "str") (by rfl) (by rfl))) rfl) (fun hc3 => ?_) (fun hc3 => ?_))
      · skip
        cases hc3
      · skip
        clear hc3
        refine ws_nil ?_
        refine ws_cons (ws_if (td_truth (ed_callB (id := "isinstance") (by rfl) B.«isinstance» bb_isinstance (ad_cons (ed_var 1 rfl) (ad_cons (ed_ty (n := "int") (by rfl) B.«int» bb_int) ad_nil)) (bc_isi (c := "int") (by rfl) (by rfl))) rfl) (fun hc4 => ?_) (fun hc4 => ?_))
        · skip
          cases hc4
        · skip
          clear hc4
          refine ws_nil ?_
          refine ws_cons (ws_if (td_tw (tw_or (td_cmp (ed_callB (id := "isinstance") (by rfl) B.«isinstance» bb_isinstance (ad_cons (ed_var 1 rfl) (ad_cons (ed_ty (n := "list") (by rfl) B.«list» bb_list) ad_nil)) (bc_isi (c := "list") (by rfl) (by rfl))) (ed_callB (id := "isinstance") (by rfl) B.«isinstance» bb_isinstance (ad_cons (ed_var 0 rfl) (ad_cons (ed_ty (n := "list") (by rfl) B.«list» bb_list) ad_nil)) (bc_isi (c := "list") (by rfl) (by rfl))) (by walk_at "c2")) (fun hb6 => (tw_or1 (td_cmp (ed_callB (id := "isinstance") (by rfl) B.«isinstance» bb_isinstance (ad_cons (ed_var 1 rfl) (ad_cons (ed_ty (n := "tuple") (by rfl) B.«tuple» bb_tuple) ad_nil)) (bc_isi (c := "tuple") (by rfl) (by rfl))) (ed_callB (id := "isinstance") (by rfl) B.«isinstance» bb_isinstance (ad_cons (ed_var 0 rfl) (ad_cons (ed_ty (n := "tuple") (by rfl) B.«tuple» bb_tuple) ad_nil)) (bc_isi (c := "tuple") (by rfl) (by rfl))) (by walk_at "c2")))))) (fun hc5 => ?_) (fun hc5 => ?_))
          · skip
            exact absurd hc5 (by decide)
          · skip
            clear hc5
            refine ws_nil ?_
            refine ws_cons (ws_if (td_cmp (ed_callB (id := "len") (by rfl) B.«len» bb_len (ad_cons (ed_var 0 rfl) ad_nil) (by walk_at "bc")) (ed_callB (id := "len") (by rfl) B.«len» bb_len (ad_cons (ed_var 1 rfl) ad_nil) (by walk_at "bc")) (by walk_at "c2")) (fun hc7 => ?_) (fun hc7 => ?_))
            · skip
              exfalso; simp at hc7
            · skip
              clear hc7
              refine ws_nil ?_
              refine ws_cons (ws_ret (ED.eq (ed_callB (id := "all") (by rfl) B.«all» bb_all (ad_cons (ed_lst (eo_map2 [("k", 2)] (List.range ds.length) (fun (i : Nat) => D.int (i : Int)) (fun _ => true) (D.bl) rfl nd (blkOk_by (N := ["actual", "due", "k"]) (sc := defScope s_law_like_m3) (by decide +kernel)) (id_range1 (by rfl) B.«range» (ed_callB (id := "len") (by rfl) B.«len» bb_len (ad_cons (ed_var 1 rfl) ad_nil) (by walk_at "bc")) (by omega)) (by rw [Int.toNat_natCast]; exact rngD0 _) (fun x hxm => by have hx2 := List.mem_range.mp hxm; exact ⟨_, by rfl, fun _ _ _ _ _ => ⟨(dg_name 2 nd), tds_nil, (by rcases md_cases (hlf _ (List.getElem_mem hx2)) with ⟨i, e⟩ | ⟨z, e⟩ | ⟨es, e, e2, e3⟩ <;> first | exact (ed_call G_law_like_int (hr.mono (by decide)) (by rfl) (ad_cons (ed_ix (d := ds[x]) (ed_var 0 rfl) (ed_var 2 rfl) (.t (atI_nat (by simp [hx2])))) (ad_cons (ed_ix (d := ds[x]) (ed_var 1 rfl) (ed_var 2 rfl) (.t (atI_nat (by simp [hx2])))) ad_nil)) (by rw [e]; exact .mk _)) | exact (ed_call G_law_like_str (hr.mono (by decide)) (by rfl) (ad_cons (ed_ix (d := ds[x]) (ed_var 0 rfl) (ed_var 2 rfl) (.t (atI_nat (by simp [hx2])))) (ad_cons (ed_ix (d := ds[x]) (ed_var 1 rfl) (ed_var 2 rfl) (.t (atI_nat (by simp [hx2])))) ad_nil)) (by rw [e]; exact .mk _)) | exact (ed_call G_law_like_m2 (hr.mono (by decide)) (by rfl) (ad_cons (ed_ix (d := ds[x]) (ed_var 0 rfl) (ed_var 2 rfl) (.t (atI_nat (by simp [hx2])))) (ad_cons (ed_ix (d := ds[x]) (ed_var 1 rfl) (ed_var 2 rfl) (.t (atI_nat (by simp [hx2])))) ad_nil)) (by rw [e]; exact .mk _ e2 e3)))⟩⟩) (by rw [List.length_range, sizeLine_eq]; omega))) ad_nil) (bc_all rfl)) ?_) (Or.inl rfl))
              simp
abbrev s_law_like_m4 : Stmt := top 37
theorem sc_law_like_m4 : FnScope ["actual", "due", "k"] ["actual", "due"] (defScope s_law_like_m4) := ⟨rfl, rfl, rfl, by decide +kernel, rfl, by decide +kernel, by decide +kernel⟩
theorem ok_law_like_m4 {f : Addr} {fd : FuncData} (F : Fun K "_law_like" "_law_like" s_law_like_m4 f fd) (B : Bt mg) (KC : Kt K mg) (KL : Lt K mg) (WD : Zdt K w mg) (XF : Xt K mg) (G_law_like_int : Fn P w K mg base "_law_like" 1 R_law_like_int) (G_law_like_m3 : Fn P w K mg base "_law_like" 5 R_law_like_m3) (G_law_like_str : Fn P w K mg base "_law_like" 2 R_law_like_str) :
    FnOk P w K mg base CX0 6 f fd ["actual", "due"] (spR K R_law_like_m4) := by
  refine fn_ok (k := 5) F sc_law_like_m4 (fun ds d h => by cases h; rfl) fun ds d hR cdv A outer s H E hr => ?_
  have nd := sc_law_like_m4.nd
  have hu := hr.units
  rcases hR with ⟨ds, hn, hlf⟩
  walk_at "en"
  refine ws_cons (ws_if (td_cmp (ed_var 1 rfl) ed_non (by walk_at "c2")) (fun hc1 => ?_) (fun hc1 => ?_))
  · skip
    cases hc1
  · skip
    clear hc1
    refine ws_nil ?_
    refine ws_cons (ws_if (td_truth (ed_callB (id := "isinstance") (by rfl) B.«isinstance» bb_isinstance (ad_cons (ed_var 1 rfl) (ad_cons (ed_ty (n := "bool") (by rfl) B.«bool» bb_bool) ad_nil)) (bc_isi (c := "bool") (by rfl) (by rfl))) rfl) (fun hc2 => ?_) (fun hc2 => ?_))
    · skip
      cases hc2
    · skip
      clear hc2
      refine ws_nil ?_
      refine ws_cons (ws_if (td_truth (ed_callB (id := "isinstance") (by rfl) B.«isinstance» bb_isinstance (ad_cons (ed_var 1 rfl) (ad_cons (ed_ty (n := "str") (by rfl) B.«str» bb_str) ad_nil)) (bc_isi (c := "str") (by rfl) (by rfl))) rfl) (fun hc3 => ?_) (fun hc3 => ?_))
      · skip
        cases hc3
      · skip
        clear hc3
        refine ws_nil ?_
        refine ws_cons (ws_if (td_truth (ed_callB (id := "isinstance") (by rfl) B.«isinstance» bb_isinstance (ad_cons (ed_var 1 rfl) (ad_cons (ed_ty (n := "int") (by rfl) B.«int» bb_int) ad_nil)) (bc_isi (c := "int") (by rfl) (by rfl))) rfl) (fun hc4 => ?_) (fun hc4 => ?_))
        · skip
          cases hc4
        · skip
          clear hc4
          refine ws_nil ?_
          refine ws_cons (ws_if (td_tw (tw_or (td_cmp (ed_callB (id := "isinstance") (by rfl) B.«isinstance» bb_isinstance (ad_cons (ed_var 1 rfl) (ad_cons (ed_ty (n := "list") (by rfl) B.«list» bb_list) ad_nil)) (bc_isi (c := "list") (by rfl) (by rfl))) (ed_callB (id := "isinstance") (by rfl) B.«isinstance» bb_isinstance (ad_cons (ed_var 0 rfl) (ad_cons (ed_ty (n := "list") (by rfl) B.«list» bb_list) ad_nil)) (bc_isi (c := "list") (by rfl) (by rfl))) (by walk_at "c2")) (fun hb6 => (tw_or1 (td_cmp (ed_callB (id := "isinstance") (by rfl) B.«isinstance» bb_isinstance (ad_cons (ed_var 1 rfl) (ad_cons (ed_ty (n := "tuple") (by rfl) B.«tuple» bb_tuple) ad_nil)) (bc_isi (c := "tuple") (by rfl) (by rfl))) (ed_callB (id := "isinstance") (by rfl) B.«isinstance» bb_isinstance (ad_cons (ed_var 0 rfl) (ad_cons (ed_ty (n := "tuple") (by rfl) B.«tuple» bb_tuple) ad_nil)) (bc_isi (c := "tuple") (by rfl) (by rfl))) (by walk_at "c2")))))) (fun hc5 => ?_) (fun hc5 => ?_))
          · skip
            exact absurd hc5 (by decide)
          · skip
            clear hc5
            refine ws_nil ?_
            refine ws_cons (ws_if (td_cmp (ed_callB (id := "len") (by rfl) B.«len» bb_len (ad_cons (ed_var 0 rfl) ad_nil) (by walk_at "bc")) (ed_callB (id := "len") (by rfl) B.«len» bb_len (ad_cons (ed_var 1 rfl) ad_nil) (by walk_at "bc")) (by walk_at "c2")) (fun hc7 => ?_) (fun hc7 => ?_))
            · skip
              exfalso; simp at hc7
            · skip
              clear hc7
              refine ws_nil ?_
              refine ws_cons (ws_ret (ED.eq (ed_callB (id := "all") (by rfl) B.«all» bb_all (ad_cons (ed_lst (eo_map2 [("k", 2)] (List.range ds.length) (fun (i : Nat) => D.int (i : Int)) (fun _ => true) (D.bl) rfl nd (blkOk_by (N := ["actual", "due", "k"]) (sc := defScope s_law_like_m4) (by decide +kernel)) (id_range1 (by rfl) B.«range» (ed_callB (id := "len") (by rfl) B.«len» bb_len (ad_cons (ed_var 1 rfl) ad_nil) (by walk_at "bc")) (by omega)) (by rw [Int.toNat_natCast]; exact rngD0 _) (fun x hxm => by have hx2 := List.mem_range.mp hxm; exact ⟨_, by rfl, fun _ _ _ _ _ => ⟨(dg_name 2 nd), tds_nil, (by rcases md_cases (hlf _ (List.getElem_mem hx2)) with ⟨i, e⟩ | ⟨z, e⟩ | ⟨es, e, e2, e3⟩ <;> first | exact (ed_call G_law_like_int (hr.mono (by decide)) (by rfl) (ad_cons (ed_ix (d := ds[x]) (ed_var 0 rfl) (ed_var 2 rfl) (.t (atI_nat (by simp [hx2])))) (ad_cons (ed_ix (d := ds[x]) (ed_var 1 rfl) (ed_var 2 rfl) (.t (atI_nat (by simp [hx2])))) ad_nil)) (by rw [e]; exact .mk _)) | exact (ed_call G_law_like_str (hr.mono (by decide)) (by rfl) (ad_cons (ed_ix (d := ds[x]) (ed_var 0 rfl) (ed_var 2 rfl) (.t (atI_nat (by simp [hx2])))) (ad_cons (ed_ix (d := ds[x]) (ed_var 1 rfl) (ed_var 2 rfl) (.t (atI_nat (by simp [hx2])))) ad_nil)) (by rw [e]; exact .mk _)) | exact (ed_call G_law_like_m3 (hr.mono (by decide)) (by rfl) (ad_cons (ed_ix (d := ds[x]) (ed_var 0 rfl) (ed_var 2 rfl) (.t (atI_nat (by simp [hx2])))) (ad_cons (ed_ix (d := ds[x]) (ed_var 1 rfl) (ed_var 2 rfl) (.t (atI_nat (by simp [hx2])))) ad_nil)) (by rw [e]; exact .mk _ e2 e3)))⟩⟩) (by rw [List.length_range, sizeLine_eq]; omega))) ad_nil) (bc_all rfl)) ?_) (Or.inl rfl))
              simp
abbrev s_law_like_m5 : Stmt := top 37
theorem sc_law_like_m5 : FnScope ["actual", "due", "k"] ["actual", "due"] (defScope s_law_like_m5) := ⟨rfl, rfl, rfl, by decide +kernel, rfl, by decide +kernel, by decide +kernel⟩
theorem ok_law_like_m5 {f : Addr} {fd : FuncData} (F : Fun K "_law_like" "_law_like" s_law_like_m5 f fd) (B : Bt mg) (KC : Kt K mg) (KL : Lt K mg) (WD : Zdt K w mg) (XF : Xt K mg) (G_law_like_int : Fn P w K mg base "_law_like" 1 R_law_like_int) (G_law_like_m4 : Fn P w K mg base "_law_like" 6 R_law_like_m4) (G_law_like_str : Fn P w K mg base "_law_like" 2 R_law_like_str) :
    FnOk P w K mg base CX0 7 f fd ["actual", "due"] (spR K R_law_like_m5) := by
  refine fn_ok (k := 6) F sc_law_like_m5 (fun ds d h => by cases h; rfl) fun ds d hR cdv A outer s H E hr => ?_
  have nd := sc_law_like_m5.nd
  have hu := hr.units
  rcases hR with ⟨ds, hn, hlf⟩
  walk_at "en"
  refine ws_cons (ws_if (td_cmp (ed_var 1 rfl) ed_non (by walk_at "c2")) (fun hc1 => ?_) (fun hc1 => ?_))
  · skip
    cases hc1
  · skip
    clear hc1
    refine ws_nil ?_
    refine ws_cons (ws_if (td_truth (ed_callB (id := "isinstance") (by rfl) B.«isinstance» bb_isinstance (ad_cons (ed_var 1 rfl) (ad_cons (ed_ty (n := "bool") (by rfl) B.«bool» bb_bool) ad_nil)) (bc_isi (c := "bool") (by rfl) (by rfl))) rfl) (fun hc2 => ?_) (fun hc2 => ?_))
    · skip
      cases hc2
    · skip
      clear hc2
      refine ws_nil ?_
      refine ws_cons (ws_if (td_truth (ed_callB (id := "isinstance") (by rfl) B.«isinstance» bb_isinstance (ad_cons (ed_var 1 rfl) (ad_cons (ed_ty (n := "str") (by rfl) B.«str» bb_str) ad_nil)) (bc_isi (c := "str") (by rfl) (by rfl))) rfl) (fun hc3 => ?_) (fun hc3 => ?_))
      · skip
        cases hc3
      · skip
        clear hc3
        refine ws_nil ?_
        refine ws_cons (ws_if (td_truth (ed_callB (id := "isinstance") (by rfl) B.«isinstance» bb_isinstance (ad_cons (ed_var 1 rfl) (ad_cons (ed_ty (n := "int") (by rfl) B.«int» bb_int) ad_nil)) (bc_isi (c := "int") (by rfl) (by rfl))) rfl) (fun hc4 => ?_) (fun hc4 => ?_))
        · skip
          cases hc4
        · skip
          clear hc4
          refine ws_nil ?_
          refine ws_cons (ws_if (td_tw (tw_or (td_cmp (ed_callB (id := "isinstance") (by rfl) B.«isinstance» bb_isinstance (ad_cons (ed_var 1 rfl) (ad_cons (ed_ty (n := "list") (by rfl) B.«list» bb_list) ad_nil)) (bc_isi (c := "list") (by rfl) (by rfl))) (ed_callB (id := "isinstance") (by rfl) B.«isinstance» bb_isinstance (ad_cons (ed_var 0 rfl) (ad_cons (ed_ty (n := "list") (by rfl) B.«list» bb_list) ad_nil)) (bc_isi (c := "list") (by rfl) (by rfl))) (by walk_at "c2")) (fun hb6 => (tw_or1 (td_cmp (ed_callB (id := "isinstance") (by rfl) B.«isinstance» bb_isinstance (ad_cons (ed_var 1 rfl) (ad_cons (ed_ty (n := "tuple") (by rfl) B.«tuple» bb_tuple) ad_nil)) (bc_isi (c := "tuple") (by rfl) (by rfl))) (ed_callB (id := "isinstance") (by rfl) B.«isinstance» bb_isinstance (ad_cons (ed_var 0 rfl) (ad_cons (ed_ty (n := "tuple") (by rfl) B.«tuple» bb_tuple) ad_nil)) (bc_isi (c := "tuple") (by rfl) (by rfl))) (by walk_at "c2")))))) (fun hc5 => ?_) (fun hc5 => ?_))
          · skip
            exact absurd hc5 (by decide)
          · skip
            clear hc5
            refine ws_nil ?_
            refine ws_cons (ws_if (td_cmp (ed_callB (id := "len") (by rfl) B.«len» bb_len (ad_cons (ed_var 0 rfl) ad_nil) (by walk_at "bc")) (ed_callB (id := "len") (by rfl) B.«len» bb_len (ad_cons (ed_var 1 rfl) ad_nil) (by walk_at "bc")) (by walk_at "c2")) (fun hc7 => ?_) (fun hc7 => ?_))
            · skip
              exfalso; simp at hc7
            · skip
              clear hc7
              refine ws_nil ?_
              refine ws_cons (ws_ret (ED.eq (ed_callB (id := "all") (by rfl) B.«all» bb_all (ad_cons (ed_lst (eo_map2 [("k", 2)] (List.range ds.length) (fun (i : Nat) => D.int (i : Int)) (fun _ => true) (D.bl) rfl nd (blkOk_by (N := ["actual", "due", "k"]) (sc := defScope s_law_like_m5) (by decide +kernel)) (id_range1 (by rfl) B.«range» (ed_callB (id := "len") (by rfl) B.«len» bb_len (ad_cons (ed_var 1 rfl) ad_nil) (by walk_at "bc")) (by omega)) (by rw [Int.toNat_natCast]; exact rngD0 _) (fun x hxm => by have hx2 := List.mem_range.mp hxm; exact ⟨_, by rfl, fun _ _ _ _ _ => ⟨(dg_name 2 nd), tds_nil, (by rcases md_cases (hlf _ (List.getElem_mem hx2)) with ⟨i, e⟩ | ⟨z, e⟩ | ⟨es, e, e2, e3⟩ <;> first | exact (ed_call G_law_like_int (hr.mono (by decide)) (by rfl) (ad_cons (ed_ix (d := ds[x]) (ed_var 0 rfl) (ed_var 2 rfl) (.t (atI_nat (by simp [hx2])))) (ad_cons (ed_ix (d := ds[x]) (ed_var 1 rfl) (ed_var 2 rfl) (.t (atI_nat (by simp [hx2])))) ad_nil)) (by rw [e]; exact .mk _)) | exact (ed_call G_law_like_str (hr.mono (by decide)) (by rfl) (ad_cons (ed_ix (d := ds[x]) (ed_var 0 rfl) (ed_var 2 rfl) (.t (atI_nat (by simp [hx2])))) (ad_cons (ed_ix (d := ds[x]) (ed_var 1 rfl) (ed_var 2 rfl) (.t (atI_nat (by simp [hx2])))) ad_nil)) (by rw [e]; exact .mk _)) | exact (ed_call G_law_like_m4 (hr.mono (by decide)) (by rfl) (ad_cons (ed_ix (d := ds[x]) (ed_var 0 rfl) (ed_var 2 rfl) (.t (atI_nat (by simp [hx2])))) (ad_cons (ed_ix (d := ds[x]) (ed_var 1 rfl) (ed_var 2 rfl) (.t (atI_nat (by simp [hx2])))) ad_nil)) (by rw [e]; exact .mk _ e2 e3)))⟩⟩) (by rw [List.length_range, sizeLine_eq]; omega))) ad_nil) (bc_all rfl)) ?_) (Or.inl rfl))
              simp
abbrev s_law_like_m6 : Stmt := top 37
theorem sc_law_like_m6 : FnScope ["actual", "due", "k"] ["actual", "due"] (defScope s_law_like_m6) := ⟨rfl, rfl, rfl, by decide +kernel, rfl, by decide +kernel, by decide +kernel⟩
theorem ok_law_like_m6 {f : Addr} {fd : FuncData} (F : Fun K "_law_like" "_law_like" s_law_like_m6 f fd) (B : Bt mg) (KC : Kt K mg) (KL : Lt K mg) (WD : Zdt K w mg) (XF : Xt K mg) (G_law_like_int : Fn P w K mg base "_law_like" 1 R_law_like_int) (G_law_like_m5 : Fn P w K mg base "_law_like" 7 R_law_like_m5) (G_law_like_str : Fn P w K mg base "_law_like" 2 R_law_like_str) :
    FnOk P w K mg base CX0 8 f fd ["actual", "due"] (spR K R_law_like_m6) := by
  refine fn_ok (k := 7) F sc_law_like_m6 (fun ds d h => by cases h; rfl) fun ds d hR cdv A outer s H E hr => ?_
  have nd := sc_law_like_m6.nd
  have hu := hr.units
  rcases hR with ⟨ds, hn, hlf⟩
  walk_at "en"
  refine ws_cons (ws_if (td_cmp (ed_var 1 rfl) ed_non (by walk_at "c2")) (fun hc1 => ?_) (fun hc1 => ?_))
  · skip
    cases hc1
  · skip
    clear hc1
    refine ws_nil ?_
    refine ws_cons (ws_if (td_truth (ed_callB (id := "isinstance") (by rfl) B.«isinstance» bb_isinstance (ad_cons (ed_var 1 rfl) (ad_cons (ed_ty (n := "bool") (by rfl) B.«bool» bb_bool) ad_nil)) (bc_isi (c := "bool") (by rfl) (by rfl))) rfl) (fun hc2 => ?_) (fun hc2 => ?_))
    · skip
      cases hc2
    · skip
      clear hc2
      refine ws_nil ?_
      refine ws_cons (ws_if (td_truth (ed_callB (id := "isinstance") (by rfl) B.«isinstance» bb_isinstance (ad_cons (ed_var 1 rfl) (ad_cons (ed_ty (n := "str") (by rfl) B.«str» bb_str) ad_nil)) (bc_isi (c := "str") (by rfl) (by rfl))) rfl) (fun hc3 => ?_) (fun hc3 => ?_))
      · skip
        cases hc3
      · skip
        clear hc3
        refine ws_nil ?_
        refine ws_cons (ws_if (td_truth (ed_callB (id := "isinstance") (by rfl) B.«isinstance» bb_isinstance (ad_cons (ed_var 1 rfl) (ad_cons (ed_ty (n := "int") (by rfl) B.«int» bb_int) ad_nil)) (bc_isi (c := "int") (by rfl) (by rfl))) rfl) (fun hc4 => ?_) (fun hc4 => ?_))
        · skip
          cases hc4
        · skip
          clear hc4
          refine ws_nil ?_
          refine ws_cons (ws_if (td_tw (tw_or (td_cmp (ed_callB (id := "isinstance") (by rfl) B.«isinstance» bb_isinstance (ad_cons (ed_var 1 rfl) (ad_cons (ed_ty (n := "list") (by rfl) B.«list» bb_list) ad_nil)) (bc_isi (c := "list") (by rfl) (by rfl))) (ed_callB (id := "isinstance") (by rfl) B.«isinstance» bb_isinstance (ad_cons (ed_var 0 rfl) (ad_cons (ed_ty (n := "list") (by rfl) B.«list» bb_list) ad_nil)) (bc_isi (c := "list") (by rfl) (by rfl))) (by walk_at "c2")) (fun hb6 => (tw_or1 (td_cmp (ed_callB (id := "isinstance") (by rfl) B.«isinstance» bb_isinstance (ad_cons (ed_var 1 rfl) (ad_cons (ed_ty (n := "tuple") (by rfl) B.«tuple» bb_tuple) ad_nil)) (bc_isi (c := "tuple") (by rfl) (by rfl))) (ed_callB (id := "isinstance") (by rfl) B.«isinstance» bb_isinstance (ad_cons (ed_var 0 rfl) (ad_cons (ed_ty (n := "tuple") (by rfl) B.«tuple» bb_tuple) ad_nil)) (bc_isi (c := "tuple") (by rfl) (by rfl))) (by walk_at "c2")))))) (fun hc5 => ?_) (fun hc5 => ?_))
          · skip
            exact absurd hc5 (by decide)
          · skip
            clear hc5
            refine ws_nil ?_
            refine ws_cons (ws_if (td_cmp (ed_callB (id := "len") (by rfl) B.«len» bb_len (ad_cons (ed_var 0 rfl) ad_nil) (by walk_at "bc")) (ed_callB (id := "len") (by rfl) B.«len» bb_len (ad_cons (ed_var 1 rfl) ad_nil) (by walk_at "bc")) (by walk_at "c2")) (fun hc7 => ?_) (fun hc7 => ?_))
            · skip
              exfalso; simp at hc7
            · skip
              clear hc7
              refine ws_nil ?_
              refine ws_cons (ws_ret (ED.eq (ed_callB (id := "all") (by rfl) B.«all» bb_all (ad_cons (ed_lst (eo_map2 [("k", 2)] (List.range ds.length) (fun (i : Nat) => D.int (i : Int)) (fun _ => true) (D.bl) rfl nd (blkOk_by (N := ["actual", "due", "k"]) (sc := defScope s_law_like_m6) (by decide +kernel)) (id_range1 (by rfl) B.«range» (ed_callB (id := "len") (by rfl) B.«len» bb_len (ad_cons (ed_var 1 rfl) ad_nil) (by walk_at "bc")) (by omega)) (by rw [Int.toNat_natCast]; exact rngD0 _) (fun x hxm => by have hx2 := List.mem_range.mp hxm; exact ⟨_, by rfl, fun _ _ _ _ _ => ⟨(dg_name 2 nd), tds_nil, (by rcases md_cases (hlf _ (List.getElem_mem hx2)) with ⟨i, e⟩ | ⟨z, e⟩ | ⟨es, e, e2, e3⟩ <;> first | exact (ed_call G_law_like_int (hr.mono (by decide)) (by rfl) (ad_cons (ed_ix (d := ds[x]) (ed_var 0 rfl) (ed_var 2 rfl) (.t (atI_nat (by simp [hx2])))) (ad_cons (ed_ix (d := ds[x]) (ed_var 1 rfl) (ed_var 2 rfl) (.t (atI_nat (by simp [hx2])))) ad_nil)) (by rw [e]; exact .mk _)) | exact (ed_call G_law_like_str (hr.mono (by decide)) (by rfl) (ad_cons (ed_ix (d := ds[x]) (ed_var 0 rfl) (ed_var 2 rfl) (.t (atI_nat (by simp [hx2])))) (ad_cons (ed_ix (d := ds[x]) (ed_var 1 rfl) (ed_var 2 rfl) (.t (atI_nat (by simp [hx2])))) ad_nil)) (by rw [e]; exact .mk _)) | exact (ed_call G_law_like_m5 (hr.mono (by decide)) (by rfl) (ad_cons (ed_ix (d := ds[x]) (ed_var 0 rfl) (ed_var 2 rfl) (.t (atI_nat (by simp [hx2])))) (ad_cons (ed_ix (d := ds[x]) (ed_var 1 rfl) (ed_var 2 rfl) (.t (atI_nat (by simp [hx2])))) ad_nil)) (by rw [e]; exact .mk _ e2 e3)))⟩⟩) (by rw [List.length_range, sizeLine_eq]; omega))) ad_nil) (bc_all rfl)) ?_) (Or.inl rfl))
              simp
abbrev s_law_qbad_name : Stmt := top 38
theorem sc_law_qbad_name : FnScope ["draw"] ["draw"] (defScope s_law_qbad_name) := ⟨rfl, rfl, rfl, by decide +kernel, rfl, by decide +kernel, by decide +kernel⟩
theorem ok_law_qbad_name {f : Addr} {fd : FuncData} (F : Fun K "_law_qbad_name" "_law_qbad_name" s_law_qbad_name f fd) (B : Bt mg) (KC : Kt K mg) (KL : Lt K mg) (WD : Zdt K w mg) (XF : Xt K mg)  :
    FnOk P w K mg base CX0 1 f fd ["draw"] (spR K R_law_qbad_name) := by
  refine fn_ok (k := 0) F sc_law_qbad_name (fun ds d h => by cases h; rfl) fun ds d hR cdv A outer s H E hr => ?_
  have nd := sc_law_qbad_name.nd
  have hu := hr.units
  rcases hR with ⟨d, hd⟩
  walk_at "en"
  refine ws_cons (ws_ret (ED.eq (ED.eq (ed_ix (ED.eq (ed_lst (eo_lst (ad_cons ed_str (ad_cons ed_str (ad_cons ed_str (ad_cons ed_str (ad_cons ed_str (ad_cons ed_str (ad_cons ed_str (ad_cons ed_str ad_nil)))))))))) (show _ = D.lst (badNm.map .str) from rfl)) (ed_bin (ed_var 0 rfl) ed_int (by walk_at "b2")) (.l (at_getI (xs := badNm) (f := D.str) (i := d % 8) (a := "") (by show _ ∧ _ < (8 : Int); omega)))) (show _ = D.str (badAt d) from rfl)) ?_) (Or.inl rfl))
  rfl
abbrev s_law_qexpression_d0 : Stmt := top 39
theorem sc_law_qexpression_d0 : FnScope ["draws", "at", "depth", "names", "draw", "kind", "n", "left", "right"] ["draws", "at", "depth", "names"] (defScope s_law_qexpression_d0) := ⟨rfl, rfl, rfl, by decide +kernel, rfl, by decide +kernel, by decide +kernel⟩
theorem ok_law_qexpression_d0 {f : Addr} {fd : FuncData} (F : Fun K "_law_qexpression" "_law_qexpression" s_law_qexpression_d0 f fd) (B : Bt mg) (KC : Kt K mg) (KL : Lt K mg) (WD : Zdt K w mg) (XF : Xt K mg)  :
    FnOk P w K mg base CX0 1 f fd ["draws", "at", "depth", "names"] (spR K R_law_qexpression_d0) := by
  refine fn_ok (k := 0) F sc_law_qexpression_d0 (fun ds d h => by cases h; rfl) fun ds d hR cdv A outer s H E hr => ?_
  have nd := sc_law_qexpression_d0.nd
  have hu := hr.units
  rcases hR with ⟨c, N, a, dp, hN, hNl, hd⟩
  obtain ⟨q, hq⟩ : ∃ q, q = dr c 90 (a % 90) := ⟨_, rfl⟩
  walk_at "en"
  refine ws_cons (ws_set 4 nd (ED.eq (ed_ix (ed_var 0 rfl) (ed_bin (ed_var 1 rfl) ed_int (by walk_at "b2")) (by walk_at "ix")) (show _ = (.int q) from by rw [hq])) ?_)
  walk_at "env"
  refine ws_cons (ws_if (td_tw (tw_or (td_cmp (ed_var 2 rfl) ed_int (by walk_at "c2")) (fun hb2 => (tw_or1 (td_cmp (ed_bin (ed_var 4 rfl) ed_int (by walk_at "b2")) ed_int (by walk_at "c2")))))) (fun hc1 => ?_) (fun hc1 => ?_))
  · skip
    have hly : dp < 2 ∨ dr c 90 (a % 90) % 7 = 6 := by rw [← hq]; simpa using hc1
    refine ws_cons (ws_ret (ED.eq (ed_tup (ad_cons ed_str (ad_cons (ED.eq (ed_ix (ED.eq (ed_var 3 rfl) rfl) (ed_bin (ed_bin (ed_var 4 rfl) ed_int (by walk_at "b2")) (ED.eq (ed_callB (id := "len") (by rfl) B.«len» bb_len (ad_cons (ed_var 3 rfl) ad_nil) (by walk_at "bc")) (show _ = (D.int (N.length : Int)) from by rw [List.length_map])) (by walk_at "b2")) (.l (at_getC (xs := N) (f := D.str) (i := q / 7 % (N.length : Int)) (a := "") ⟨Int.emod_nonneg _ (by omega), Int.emod_lt_of_pos _ (by omega)⟩))) (show _ = D.str (N.getD (dr c 90 (a % 90) / 7 % (N.length : Int)).toNat "") by rw [← hq])) ad_nil))) ?_) (Or.inl rfl))
    first | (rw [qEx_lay 0 hly]; rfl)
  · skip
    exfalso; simp at hc1; omega
abbrev s_law_qexpression_d1 : Stmt := top 39
theorem sc_law_qexpression_d1 : FnScope ["draws", "at", "depth", "names", "draw", "kind", "n", "left", "right"] ["draws", "at", "depth", "names"] (defScope s_law_qexpression_d1) := ⟨rfl, rfl, rfl, by decide +kernel, rfl, by decide +kernel, by decide +kernel⟩
theorem ok_law_qexpression_d1 {f : Addr} {fd : FuncData} (F : Fun K "_law_qexpression" "_law_qexpression" s_law_qexpression_d1 f fd) (B : Bt mg) (KC : Kt K mg) (KL : Lt K mg) (WD : Zdt K w mg) (XF : Xt K mg) (G_law_qexpression_d0 : Fn P w K mg base "_law_qexpression" 1 R_law_qexpression_d0) (G_law_qexpression_d0 : Fn P w K mg base "_law_qexpression" 1 R_law_qexpression_d0) :
    FnOk P w K mg base CX0 2 f fd ["draws", "at", "depth", "names"] (spR K R_law_qexpression_d1) := by
  refine fn_ok (k := 1) F sc_law_qexpression_d1 (fun ds d h => by cases h; rfl) fun ds d hR cdv A outer s H E hr => ?_
  have nd := sc_law_qexpression_d1.nd
  have hu := hr.units
  rcases hR with ⟨c, N, a, dp, hN, hNl, hd⟩
  obtain ⟨q, hq⟩ : ∃ q, q = dr c 90 (a % 90) := ⟨_, rfl⟩
  walk_at "en"
  refine ws_cons (ws_set 4 nd (ED.eq (ed_ix (ed_var 0 rfl) (ed_bin (ed_var 1 rfl) ed_int (by walk_at "b2")) (by walk_at "ix")) (show _ = (.int q) from by rw [hq])) ?_)
  walk_at "env"
  refine ws_cons (ws_if (td_tw (tw_or (td_cmp (ed_var 2 rfl) ed_int (by walk_at "c2")) (fun hb2 => (tw_or1 (td_cmp (ed_bin (ed_var 4 rfl) ed_int (by walk_at "b2")) ed_int (by walk_at "c2")))))) (fun hc1 => ?_) (fun hc1 => ?_))
  · skip
    have hly : dp < 2 ∨ dr c 90 (a % 90) % 7 = 6 := by rw [← hq]; simpa using hc1
    refine ws_cons (ws_ret (ED.eq (ed_tup (ad_cons ed_str (ad_cons (ED.eq (ed_ix (ED.eq (ed_var 3 rfl) rfl) (ed_bin (ed_bin (ed_var 4 rfl) ed_int (by walk_at "b2")) (ED.eq (ed_callB (id := "len") (by rfl) B.«len» bb_len (ad_cons (ed_var 3 rfl) ad_nil) (by walk_at "bc")) (show _ = (D.int (N.length : Int)) from by rw [List.length_map])) (by walk_at "b2")) (.l (at_getC (xs := N) (f := D.str) (i := q / 7 % (N.length : Int)) (a := "") ⟨Int.emod_nonneg _ (by omega), Int.emod_lt_of_pos _ (by omega)⟩))) (show _ = D.str (N.getD (dr c 90 (a % 90) / 7 % (N.length : Int)).toNat "") by rw [← hq])) ad_nil))) ?_) (Or.inl rfl))
    first | (rw [qEx_lay 1 hly]; rfl) | (rw [qEx_two hly (by rw [← hq]; exact h4), ← hq]; rfl) | (rw [qEx_siz hly (by rw [← hq]; exact h4), ← hq, hn9]; rfl) | (show _ = D.tup _; rw [qEx_siz hly (by rw [← hq]; exact h4), ← hq]; unfold Ex.e; rw [hn9])
  · skip
    have hly : ¬ (dp < 2 ∨ dr c 90 (a % 90) % 7 = 6) := by rw [← hq]; simpa using hc1
    have hq6 : ¬ q % 7 = 6 := fun z => hly (.inr (by rw [← hq]; exact z))
    refine ws_nil ?_
    refine ws_cons (ws_if (td_cmp (ed_bin (ed_var 4 rfl) ed_int (by walk_at "b2")) ed_int (by walk_at "c2")) (fun hc3 => ?_) (fun hc3 => ?_))
    · skip
      have h4 : q % 7 < 4 := of_decide_eq_true hc3
      refine ws_cons (ws_set 7 nd (ed_call G_law_qexpression_d0 (hr.mono (by decide)) (by rfl) (ad_cons (ed_var 0 rfl) (ad_cons (ed_bin (ed_bin ed_int (ed_var 1 rfl) (by walk_at "b2")) ed_int (by walk_at "b2")) (ad_cons (ed_bin (ed_var 2 rfl) ed_int (by walk_at "b2")) (ad_cons (ed_var 3 rfl) ad_nil)))) (by exact .mk c N _ _ hN hNl (by omega))) ?_)
      walk_at "env"
      refine ws_cons (ws_set 8 nd (ed_call G_law_qexpression_d0 (hr.mono (by decide)) (by rfl) (ad_cons (ed_var 0 rfl) (ad_cons (ed_bin (ed_bin ed_int (ed_var 1 rfl) (by walk_at "b2")) ed_int (by walk_at "b2")) (ad_cons (ed_bin (ed_bin (ed_var 2 rfl) ed_int (by walk_at "b2")) (ed_bin (ed_bin (ed_var 4 rfl) ed_int (by walk_at "b2")) ed_int (by walk_at "b2")) (by walk_at "b2")) (ad_cons (ed_var 3 rfl) ad_nil)))) (by exact .mk c N _ _ hN hNl (by omega))) ?_)
      walk_at "env"
      refine ws_cons (ws_ret (ED.eq (ed_tup (ad_cons (ED.eq (ed_ix (ED.eq (ed_lst (eo_lst (ad_cons ed_str (ad_cons ed_str (ad_cons ed_str (ad_cons ed_str ad_nil)))))) (show _ = D.lst (opL4.map .str) from rfl)) (ed_bin (ed_var 4 rfl) ed_int (by walk_at "b2")) (.l (at_getC (xs := opL4) (f := D.str) (i := q % 7) (a := "") (by show _ ∧ _ < (4 : Int); omega)))) (show _ = D.str (opP (Fin.ofNat 4 (q % 7).toNat)) from congrArg D.str (opP_get (by omega)))) (ad_cons (ed_var 7 rfl) (ad_cons (ed_var 8 rfl) ad_nil)))) ?_) (Or.inl rfl))
      first | (rw [qEx_lay 1 hly]; rfl) | (rw [qEx_two hly (by rw [← hq]; exact h4), ← hq]; rfl) | (rw [qEx_siz hly (by rw [← hq]; exact h4), ← hq, hn9]; rfl) | (show _ = D.tup _; rw [qEx_siz hly (by rw [← hq]; exact h4), ← hq]; unfold Ex.e; rw [hn9])
    · skip
      have h4 : ¬ q % 7 < 4 := of_decide_eq_false hc3
      refine ws_nil ?_
      refine ws_cons (ws_set 5 nd (ED.eq (ed_ix (ED.eq (ed_lst (eo_lst (ad_cons ed_str (ad_cons ed_str (ad_cons ed_str (ad_cons ed_str ad_nil)))))) (show _ = D.lst (opG4.map .str) from rfl)) (ed_bin (ed_bin (ed_var 4 rfl) ed_int (by walk_at "b2")) ed_int (by walk_at "b2")) (.l (at_getC (xs := opG4) (f := D.str) (i := q / 7 % 4) (a := "") (by show _ ∧ _ < (4 : Int); omega)))) (show _ = D.str (opS (sizI (q / 7 % 4).toNat)) from congrArg D.str (opS_get (by omega)))) ?_)
      walk_at "env"
      refine ws_cons (ws_set 6 nd (ed_bin (ed_bin (ed_var 4 rfl) ed_int (by walk_at "b2")) ed_int (by walk_at "b2")) ?_)
      walk_at "env"
      refine ws_cons (ws_if (TD.eq (td_cmp (ed_var 5 rfl) ed_str (by walk_at "c2")) (opS_open _)) (fun hc4 => ?_) (fun hc4 => ?_))
      · skip
        have ho := of_decide_eq_true hc4
        have hn9 : qxN q = max 1 (q / 28 % 4) := if_pos ho
        refine ws_cons (ws_set 6 nd (ed_callB (id := "max") (by rfl) B.«max» bb_max (ad_cons ed_int (ad_cons (ed_var 6 rfl) ad_nil)) (by walk_at "bc")) ?_)
        walk_at "env"
        refine ws_nil ?_
        refine ws_cons (ws_ret (ED.eq (ed_tup (ad_cons (ed_var 5 rfl) (ad_cons (ed_var 6 rfl) (ad_cons (ed_call G_law_qexpression_d0 (hr.mono (by decide)) (by rfl) (ad_cons (ed_var 0 rfl) (ad_cons (ed_bin (ed_bin ed_int (ed_var 1 rfl) (by walk_at "b2")) ed_int (by walk_at "b2")) (ad_cons (ed_bin (ed_var 2 rfl) ed_int (by walk_at "b2")) (ad_cons (ed_var 3 rfl) ad_nil)))) (by exact .mk c N _ _ hN hNl (by omega))) ad_nil)))) ?_) (Or.inl rfl))
        first | (rw [qEx_lay 1 hly]; rfl) | (rw [qEx_two hly (by rw [← hq]; exact h4), ← hq]; rfl) | (rw [qEx_siz hly (by rw [← hq]; exact h4), ← hq, hn9]; rfl) | (show _ = D.tup _; rw [qEx_siz hly (by rw [← hq]; exact h4), ← hq]; unfold Ex.e; rw [hn9])
      · skip
        have ho := of_decide_eq_false hc4
        have hn9 : qxN q = q / 28 % 4 := if_neg ho
        refine ws_nil ?_
        refine ws_cons (ws_ret (ED.eq (ed_tup (ad_cons (ed_var 5 rfl) (ad_cons (ed_var 6 rfl) (ad_cons (ed_call G_law_qexpression_d0 (hr.mono (by decide)) (by rfl) (ad_cons (ed_var 0 rfl) (ad_cons (ed_bin (ed_bin ed_int (ed_var 1 rfl) (by walk_at "b2")) ed_int (by walk_at "b2")) (ad_cons (ed_bin (ed_var 2 rfl) ed_int (by walk_at "b2")) (ad_cons (ed_var 3 rfl) ad_nil)))) (by exact .mk c N _ _ hN hNl (by omega))) ad_nil)))) ?_) (Or.inl rfl))
        first | (rw [qEx_lay 1 hly]; rfl) | (rw [qEx_two hly (by rw [← hq]; exact h4), ← hq]; rfl) | (rw [qEx_siz hly (by rw [← hq]; exact h4), ← hq, hn9]; rfl) | (show _ = D.tup _; rw [qEx_siz hly (by rw [← hq]; exact h4), ← hq]; unfold Ex.e; rw [hn9])
abbrev s_law_qexpression_d2 : Stmt := top 39
theorem sc_law_qexpression_d2 : FnScope ["draws", "at", "depth", "names", "draw", "kind", "n", "left", "right"] ["draws", "at", "depth", "names"] (defScope s_law_qexpression_d2) := ⟨rfl, rfl, rfl, by decide +kernel, rfl, by decide +kernel, by decide +kernel⟩
theorem ok_law_qexpression_d2 {f : Addr} {fd : FuncData} (F : Fun K "_law_qexpression" "_law_qexpression" s_law_qexpression_d2 f fd) (B : Bt mg) (KC : Kt K mg) (KL : Lt K mg) (WD : Zdt K w mg) (XF : Xt K mg) (G_law_qexpression_d1 : Fn P w K mg base "_law_qexpression" 2 R_law_qexpression_d1) (G_law_qexpression_d1 : Fn P w K mg base "_law_qexpression" 2 R_law_qexpression_d1) :
    FnOk P w K mg base CX0 3 f fd ["draws", "at", "depth", "names"] (spR K R_law_qexpression_d2) := by
  refine fn_ok (k := 2) F sc_law_qexpression_d2 (fun ds d h => by cases h; rfl) fun ds d hR cdv A outer s H E hr => ?_
  have nd := sc_law_qexpression_d2.nd
  have hu := hr.units
  rcases hR with ⟨c, N, a, dp, hN, hNl, hd⟩
  obtain ⟨q, hq⟩ : ∃ q, q = dr c 90 (a % 90) := ⟨_, rfl⟩
  walk_at "en"
  refine ws_cons (ws_set 4 nd (ED.eq (ed_ix (ed_var 0 rfl) (ed_bin (ed_var 1 rfl) ed_int (by walk_at "b2")) (by walk_at "ix")) (show _ = (.int q) from by rw [hq])) ?_)
  walk_at "env"
  refine ws_cons (ws_if (td_tw (tw_or (td_cmp (ed_var 2 rfl) ed_int (by walk_at "c2")) (fun hb2 => (tw_or1 (td_cmp (ed_bin (ed_var 4 rfl) ed_int (by walk_at "b2")) ed_int (by walk_at "c2")))))) (fun hc1 => ?_) (fun hc1 => ?_))
  · skip
    have hly : dp < 2 ∨ dr c 90 (a % 90) % 7 = 6 := by rw [← hq]; simpa using hc1
    refine ws_cons (ws_ret (ED.eq (ed_tup (ad_cons ed_str (ad_cons (ED.eq (ed_ix (ED.eq (ed_var 3 rfl) rfl) (ed_bin (ed_bin (ed_var 4 rfl) ed_int (by walk_at "b2")) (ED.eq (ed_callB (id := "len") (by rfl) B.«len» bb_len (ad_cons (ed_var 3 rfl) ad_nil) (by walk_at "bc")) (show _ = (D.int (N.length : Int)) from by rw [List.length_map])) (by walk_at "b2")) (.l (at_getC (xs := N) (f := D.str) (i := q / 7 % (N.length : Int)) (a := "") ⟨Int.emod_nonneg _ (by omega), Int.emod_lt_of_pos _ (by omega)⟩))) (show _ = D.str (N.getD (dr c 90 (a % 90) / 7 % (N.length : Int)).toNat "") by rw [← hq])) ad_nil))) ?_) (Or.inl rfl))
    first | (rw [qEx_lay 2 hly]; rfl) | (rw [qEx_two hly (by rw [← hq]; exact h4), ← hq]; rfl) | (rw [qEx_siz hly (by rw [← hq]; exact h4), ← hq, hn9]; rfl) | (show _ = D.tup _; rw [qEx_siz hly (by rw [← hq]; exact h4), ← hq]; unfold Ex.e; rw [hn9])
  · skip
    have hly : ¬ (dp < 2 ∨ dr c 90 (a % 90) % 7 = 6) := by rw [← hq]; simpa using hc1
    have hq6 : ¬ q % 7 = 6 := fun z => hly (.inr (by rw [← hq]; exact z))
    refine ws_nil ?_
    refine ws_cons (ws_if (td_cmp (ed_bin (ed_var 4 rfl) ed_int (by walk_at "b2")) ed_int (by walk_at "c2")) (fun hc3 => ?_) (fun hc3 => ?_))
    · skip
      have h4 : q % 7 < 4 := of_decide_eq_true hc3
      refine ws_cons (ws_set 7 nd (ed_call G_law_qexpression_d1 (hr.mono (by decide)) (by rfl) (ad_cons (ed_var 0 rfl) (ad_cons (ed_bin (ed_bin ed_int (ed_var 1 rfl) (by walk_at "b2")) ed_int (by walk_at "b2")) (ad_cons (ed_bin (ed_var 2 rfl) ed_int (by walk_at "b2")) (ad_cons (ed_var 3 rfl) ad_nil)))) (by exact .mk c N _ _ hN hNl (by omega))) ?_)
      walk_at "env"
      refine ws_cons (ws_set 8 nd (ed_call G_law_qexpression_d1 (hr.mono (by decide)) (by rfl) (ad_cons (ed_var 0 rfl) (ad_cons (ed_bin (ed_bin ed_int (ed_var 1 rfl) (by walk_at "b2")) ed_int (by walk_at "b2")) (ad_cons (ed_bin (ed_bin (ed_var 2 rfl) ed_int (by walk_at "b2")) (ed_bin (ed_bin (ed_var 4 rfl) ed_int (by walk_at "b2")) ed_int (by walk_at "b2")) (by walk_at "b2")) (ad_cons (ed_var 3 rfl) ad_nil)))) (by exact .mk c N _ _ hN hNl (by omega))) ?_)
      walk_at "env"
      refine ws_cons (ws_ret (ED.eq (ed_tup (ad_cons (ED.eq (ed_ix (ED.eq (ed_lst (eo_lst (ad_cons ed_str (ad_cons ed_str (ad_cons ed_str (ad_cons ed_str ad_nil)))))) (show _ = D.lst (opL4.map .str) from rfl)) (ed_bin (ed_var 4 rfl) ed_int (by walk_at "b2")) (.l (at_getC (xs := opL4) (f := D.str) (i := q % 7) (a := "") (by show _ ∧ _ < (4 : Int); omega)))) (show _ = D.str (opP (Fin.ofNat 4 (q % 7).toNat)) from congrArg D.str (opP_get (by omega)))) (ad_cons (ed_var 7 rfl) (ad_cons (ed_var 8 rfl) ad_nil)))) ?_) (Or.inl rfl))
      first | (rw [qEx_lay 2 hly]; rfl) | (rw [qEx_two hly (by rw [← hq]; exact h4), ← hq]; rfl) | (rw [qEx_siz hly (by rw [← hq]; exact h4), ← hq, hn9]; rfl) | (show _ = D.tup _; rw [qEx_siz hly (by rw [← hq]; exact h4), ← hq]; unfold Ex.e; rw [hn9])
    · skip
      have h4 : ¬ q % 7 < 4 := of_decide_eq_false hc3
      refine ws_nil ?_
      refine ws_cons (ws_set 5 nd (ED.eq (ed_ix (ED.eq (ed_lst (eo_lst (ad_cons ed_str (ad_cons ed_str (ad_cons ed_str (ad_cons ed_str ad_nil)))))) (show _ = D.lst (opG4.map .str) from rfl)) (ed_bin (ed_bin (ed_var 4 rfl) ed_int (by walk_at "b2")) ed_int (by walk_at "b2")) (.l (at_getC (xs := opG4) (f := D.str) (i := q / 7 % 4) (a := "") (by show _ ∧ _ < (4 : Int); omega)))) (show _ = D.str (opS (sizI (q / 7 % 4).toNat)) from congrArg D.str (opS_get (by omega)))) ?_)
      walk_at "env"
      refine ws_cons (ws_set 6 nd (ed_bin (ed_bin (ed_var 4 rfl) ed_int (by walk_at "b2")) ed_int (by walk_at "b2")) ?_)
      walk_at "env"
      refine ws_cons (ws_if (TD.eq (td_cmp (ed_var 5 rfl) ed_str (by walk_at "c2")) (opS_open _)) (fun hc4 => ?_) (fun hc4 => ?_))
      · skip
        have ho := of_decide_eq_true hc4
        have hn9 : qxN q = max 1 (q / 28 % 4) := if_pos ho
        refine ws_cons (ws_set 6 nd (ed_callB (id := "max") (by rfl) B.«max» bb_max (ad_cons ed_int (ad_cons (ed_var 6 rfl) ad_nil)) (by walk_at "bc")) ?_)
        walk_at "env"
        refine ws_nil ?_
        refine ws_cons (ws_ret (ED.eq (ed_tup (ad_cons (ed_var 5 rfl) (ad_cons (ed_var 6 rfl) (ad_cons (ed_call G_law_qexpression_d1 (hr.mono (by decide)) (by rfl) (ad_cons (ed_var 0 rfl) (ad_cons (ed_bin (ed_bin ed_int (ed_var 1 rfl) (by walk_at "b2")) ed_int (by walk_at "b2")) (ad_cons (ed_bin (ed_var 2 rfl) ed_int (by walk_at "b2")) (ad_cons (ed_var 3 rfl) ad_nil)))) (by exact .mk c N _ _ hN hNl (by omega))) ad_nil)))) ?_) (Or.inl rfl))
        first | (rw [qEx_lay 2 hly]; rfl) | (rw [qEx_two hly (by rw [← hq]; exact h4), ← hq]; rfl) | (rw [qEx_siz hly (by rw [← hq]; exact h4), ← hq, hn9]; rfl) | (show _ = D.tup _; rw [qEx_siz hly (by rw [← hq]; exact h4), ← hq]; unfold Ex.e; rw [hn9])
      · skip
        have ho := of_decide_eq_false hc4
        have hn9 : qxN q = q / 28 % 4 := if_neg ho
        refine ws_nil ?_
        refine ws_cons (ws_ret (ED.eq (ed_tup (ad_cons (ed_var 5 rfl) (ad_cons (ed_var 6 rfl) (ad_cons (ed_call G_law_qexpression_d1 (hr.mono (by decide)) (by rfl) (ad_cons (ed_var 0 rfl) (ad_cons (ed_bin (ed_bin ed_int (ed_var 1 rfl) (by walk_at "b2")) ed_int (by walk_at "b2")) (ad_cons (ed_bin (ed_var 2 rfl) ed_int (by walk_at "b2")) (ad_cons (ed_var 3 rfl) ad_nil)))) (by exact .mk c N _ _ hN hNl (by omega))) ad_nil)))) ?_) (Or.inl rfl))
        first | (rw [qEx_lay 2 hly]; rfl) | (rw [qEx_two hly (by rw [← hq]; exact h4), ← hq]; rfl) | (rw [qEx_siz hly (by rw [← hq]; exact h4), ← hq, hn9]; rfl) | (show _ = D.tup _; rw [qEx_siz hly (by rw [← hq]; exact h4), ← hq]; unfold Ex.e; rw [hn9])
abbrev s_law_qexpression_d3 : Stmt := top 39
theorem sc_law_qexpression_d3 : FnScope ["draws", "at", "depth", "names", "draw", "kind", "n", "left", "right"] ["draws", "at", "depth", "names"] (defScope s_law_qexpression_d3) := ⟨rfl, rfl, rfl, by decide +kernel, rfl, by decide +kernel, by decide +kernel⟩
theorem ok_law_qexpression_d3 {f : Addr} {fd : FuncData} (F : Fun K "_law_qexpression" "_law_qexpression" s_law_qexpression_d3 f fd) (B : Bt mg) (KC : Kt K mg) (KL : Lt K mg) (WD : Zdt K w mg) (XF : Xt K mg) (G_law_qexpression_d2 : Fn P w K mg base "_law_qexpression" 3 R_law_qexpression_d2) (G_law_qexpression_d2 : Fn P w K mg base "_law_qexpression" 3 R_law_qexpression_d2) :
    FnOk P w K mg base CX0 4 f fd ["draws", "at", "depth", "names"] (spR K R_law_qexpression_d3) := by
  refine fn_ok (k := 3) F sc_law_qexpression_d3 (fun ds d h => by cases h; rfl) fun ds d hR cdv A outer s H E hr => ?_
  have nd := sc_law_qexpression_d3.nd
  have hu := hr.units
  rcases hR with ⟨c, N, a, dp, hN, hNl, hd⟩
  obtain ⟨q, hq⟩ : ∃ q, q = dr c 90 (a % 90) := ⟨_, rfl⟩
  walk_at "en"
  refine ws_cons (ws_set 4 nd (ED.eq (ed_ix (ed_var 0 rfl) (ed_bin (ed_var 1 rfl) ed_int (by walk_at "b2")) (by walk_at "ix")) (show _ = (.int q) from by rw [hq])) ?_)
  walk_at "env"
  refine ws_cons (ws_if (td_tw (tw_or (td_cmp (ed_var 2 rfl) ed_int (by walk_at "c2")) (fun hb2 => (tw_or1 (td_cmp (ed_bin (ed_var 4 rfl) ed_int (by walk_at "b2")) ed_int (by walk_at "c2")))))) (fun hc1 => ?_) (fun hc1 => ?_))
  · skip
    have hly : dp < 2 ∨ dr c 90 (a % 90) % 7 = 6 := by rw [← hq]; simpa using hc1
    refine ws_cons (ws_ret (ED.eq (ed_tup (ad_cons ed_str (ad_cons (ED.eq (ed_ix (ED.eq (ed_var 3 rfl) rfl) (ed_bin (ed_bin (ed_var 4 rfl) ed_int (by walk_at "b2")) (ED.eq (ed_callB (id := "len") (by rfl) B.«len» bb_len (ad_cons (ed_var 3 rfl) ad_nil) (by walk_at "bc")) (show _ = (D.int (N.length : Int)) from by rw [List.length_map])) (by walk_at "b2")) (.l (at_getC (xs := N) (f := D.str) (i := q / 7 % (N.length : Int)) (a := "") ⟨Int.emod_nonneg _ (by omega), Int.emod_lt_of_pos _ (by omega)⟩))) (show _ = D.str (N.getD (dr c 90 (a % 90) / 7 % (N.length : Int)).toNat "") by rw [← hq])) ad_nil))) ?_) (Or.inl rfl))
    first | (rw [qEx_lay 3 hly]; rfl) | (rw [qEx_two hly (by rw [← hq]; exact h4), ← hq]; rfl) | (rw [qEx_siz hly (by rw [← hq]; exact h4), ← hq, hn9]; rfl) | (show _ = D.tup _; rw [qEx_siz hly (by rw [← hq]; exact h4), ← hq]; unfold Ex.e; rw [hn9])
  · skip
    have hly : ¬ (dp < 2 ∨ dr c 90 (a % 90) % 7 = 6) := by rw [← hq]; simpa using hc1
    have hq6 : ¬ q % 7 = 6 := fun z => hly (.inr (by rw [← hq]; exact z))
    refine ws_nil ?_
    refine ws_cons (ws_if (td_cmp (ed_bin (ed_var 4 rfl) ed_int (by walk_at "b2")) ed_int (by walk_at "c2")) (fun hc3 => ?_) (fun hc3 => ?_))
    · skip
      have h4 : q % 7 < 4 := of_decide_eq_true hc3
      refine ws_cons (ws_set 7 nd (ed_call G_law_qexpression_d2 (hr.mono (by decide)) (by rfl) (ad_cons (ed_var 0 rfl) (ad_cons (ed_bin (ed_bin ed_int (ed_var 1 rfl) (by walk_at "b2")) ed_int (by walk_at "b2")) (ad_cons (ed_bin (ed_var 2 rfl) ed_int (by walk_at "b2")) (ad_cons (ed_var 3 rfl) ad_nil)))) (by exact .mk c N _ _ hN hNl (by omega))) ?_)
      walk_at "env"
      refine ws_cons (ws_set 8 nd (ed_call G_law_qexpression_d2 (hr.mono (by decide)) (by rfl) (ad_cons (ed_var 0 rfl) (ad_cons (ed_bin (ed_bin ed_int (ed_var 1 rfl) (by walk_at "b2")) ed_int (by walk_at "b2")) (ad_cons (ed_bin (ed_bin (ed_var 2 rfl) ed_int (by walk_at "b2")) (ed_bin (ed_bin (ed_var 4 rfl) ed_int (by walk_at "b2")) ed_int (by walk_at "b2")) (by walk_at "b2")) (ad_cons (ed_var 3 rfl) ad_nil)))) (by exact .mk c N _ _ hN hNl (by omega))) ?_)
      walk_at "env"
      refine ws_cons (ws_ret (ED.eq (ed_tup (ad_cons (ED.eq (ed_ix (ED.eq (ed_lst (eo_lst (ad_cons ed_str (ad_cons ed_str (ad_cons ed_str (ad_cons ed_str ad_nil)))))) (show _ = D.lst (opL4.map .str) from rfl)) (ed_bin (ed_var 4 rfl) ed_int (by walk_at "b2")) (.l (at_getC (xs := opL4) (f := D.str) (i := q % 7) (a := "") (by show _ ∧ _ < (4 : Int); omega)))) (show _ = D.str (opP (Fin.ofNat 4 (q % 7).toNat)) from congrArg D.str (opP_get (by omega)))) (ad_cons (ed_var 7 rfl) (ad_cons (ed_var 8 rfl) ad_nil)))) ?_) (Or.inl rfl))
      first | (rw [qEx_lay 3 hly]; rfl) | (rw [qEx_two hly (by rw [← hq]; exact h4), ← hq]; rfl) | (rw [qEx_siz hly (by rw [← hq]; exact h4), ← hq, hn9]; rfl) | (show _ = D.tup _; rw [qEx_siz hly (by rw [← hq]; exact h4), ← hq]; unfold Ex.e; rw [hn9])
    · skip
      have h4 : ¬ q % 7 < 4 := of_decide_eq_false hc3
      refine ws_nil ?_
      refine ws_cons (ws_set 5 nd (ED.eq (ed_ix (ED.eq (ed_lst (eo_lst (ad_cons ed_str (ad_cons ed_str (ad_cons ed_str (ad_cons ed_str ad_nil)))))) (show _ = D.lst (opG4.map .str) from rfl)) (ed_bin (ed_bin (ed_var 4 rfl) ed_int (by walk_at "b2")) ed_int (by walk_at "b2")) (.l (at_getC (xs := opG4) (f := D.str) (i := q / 7 % 4) (a := "") (by show _ ∧ _ < (4 : Int); omega)))) (show _ = D.str (opS (sizI (q / 7 % 4).toNat)) from congrArg D.str (opS_get (by omega)))) ?_)
      walk_at "env"
      refine ws_cons (ws_set 6 nd (ed_bin (ed_bin (ed_var 4 rfl) ed_int (by walk_at "b2")) ed_int (by walk_at "b2")) ?_)
      walk_at "env"
      refine ws_cons (ws_if (TD.eq (td_cmp (ed_var 5 rfl) ed_str (by walk_at "c2")) (opS_open _)) (fun hc4 => ?_) (fun hc4 => ?_))
      · skip
        have ho := of_decide_eq_true hc4
        have hn9 : qxN q = max 1 (q / 28 % 4) := if_pos ho
        refine ws_cons (ws_set 6 nd (ed_callB (id := "max") (by rfl) B.«max» bb_max (ad_cons ed_int (ad_cons (ed_var 6 rfl) ad_nil)) (by walk_at "bc")) ?_)
        walk_at "env"
        refine ws_nil ?_
        refine ws_cons (ws_ret (ED.eq (ed_tup (ad_cons (ed_var 5 rfl) (ad_cons (ed_var 6 rfl) (ad_cons (ed_call G_law_qexpression_d2 (hr.mono (by decide)) (by rfl) (ad_cons (ed_var 0 rfl) (ad_cons (ed_bin (ed_bin ed_int (ed_var 1 rfl) (by walk_at "b2")) ed_int (by walk_at "b2")) (ad_cons (ed_bin (ed_var 2 rfl) ed_int (by walk_at "b2")) (ad_cons (ed_var 3 rfl) ad_nil)))) (by exact .mk c N _ _ hN hNl (by omega))) ad_nil)))) ?_) (Or.inl rfl))
        first | (rw [qEx_lay 3 hly]; rfl) | (rw [qEx_two hly (by rw [← hq]; exact h4), ← hq]; rfl) | (rw [qEx_siz hly (by rw [← hq]; exact h4), ← hq, hn9]; rfl) | (show _ = D.tup _; rw [qEx_siz hly (by rw [← hq]; exact h4), ← hq]; unfold Ex.e; rw [hn9])
      · skip
        have ho := of_decide_eq_false hc4
        have hn9 : qxN q = q / 28 % 4 := if_neg ho
        refine ws_nil ?_
        refine ws_cons (ws_ret (ED.eq (ed_tup (ad_cons (ed_var 5 rfl) (ad_cons (ed_var 6 rfl) (ad_cons (ed_call G_law_qexpression_d2 (hr.mono (by decide)) (by rfl) (ad_cons (ed_var 0 rfl) (ad_cons (ed_bin (ed_bin ed_int (ed_var 1 rfl) (by walk_at "b2")) ed_int (by walk_at "b2")) (ad_cons (ed_bin (ed_var 2 rfl) ed_int (by walk_at "b2")) (ad_cons (ed_var 3 rfl) ad_nil)))) (by exact .mk c N _ _ hN hNl (by omega))) ad_nil)))) ?_) (Or.inl rfl))
        first | (rw [qEx_lay 3 hly]; rfl) | (rw [qEx_two hly (by rw [← hq]; exact h4), ← hq]; rfl) | (rw [qEx_siz hly (by rw [← hq]; exact h4), ← hq, hn9]; rfl) | (show _ = D.tup _; rw [qEx_siz hly (by rw [← hq]; exact h4), ← hq]; unfold Ex.e; rw [hn9])
abbrev s_law_qdefinitions : Stmt := top 40
theorem sc_law_qdefinitions : FnScope ["cell", "most", "depth", "draws", "names", "found", "k", "name"] ["cell", "most", "depth"] (defScope s_law_qdefinitions) := ⟨rfl, rfl, rfl, by decide +kernel, rfl, by decide +kernel, by decide +kernel⟩
theorem ok_law_qdefinitions {f : Addr} {fd : FuncData} (F : Fun K "_law_qdefinitions" "_law_qdefinitions" s_law_qdefinitions f fd) (B : Bt mg) (KC : Kt K mg) (KL : Lt K mg) (WD : Zdt K w mg) (XF : Xt K mg) (G_law_draws : Fn P w K mg base "_law_draws" 1 R_law_draws) (G_law_layers : Fn P w K mg base "_law_layers" 1 R_law_layers) (G_law_name : Fn P w K mg base "_law_name" 1 R_law_name) (G_law_qexpression_d3 : Fn P w K mg base "_law_qexpression" 4 R_law_qexpression_d3) (G_law_qexpression_d3 : Fn P w K mg base "_law_qexpression" 4 R_law_qexpression_d3) :
    FnOk P w K mg base CX0 5 f fd ["cell", "most", "depth"] (spR K R_law_qdefinitions) := by
  refine fn_ok (k := 4) F sc_law_qdefinitions (fun ds d h => by cases h; rfl) fun ds d hR cdv A outer s H E hr => ?_
  have nd := sc_law_qdefinitions.nd
  have hu := hr.units
  rcases hR with ⟨c, most, dp, hm, hd⟩
  obtain ⟨n9, hn9⟩ : ∃ n : Int, n = dr c 90 89 % (most + 1) := ⟨_, rfl⟩
  have hnb : 0 ≤ n9 ∧ n9 ≤ 50 := by have := Int.emod_lt_of_pos (dr c 90 89) (b := most + 1) (by omega); have := Int.emod_nonneg (dr c 90 89) (b := most + 1) (by omega); omega
  walk_at "en"
  refine ws_cons (ws_set 3 nd (ed_call G_law_draws (hr.mono (by decide)) (by rfl) (ad_cons (ed_var 0 rfl) (ad_cons ed_int ad_nil)) (by exact .mk _ _ (by omega) (by omega))) ?_)
  walk_at "env"
  refine ws_cons (ws_set 4 nd (ed_call0 G_law_layers (hr.mono (by decide)) (by rfl) (by walk_at "mk")) ?_)
  walk_at "env"
  refine ws_cons (ws_setO 5 nd (eo_lst ad_nil) ?_)
  walk_at "env"
  refine ws_cons (ws_forU (List.range (n9.toNat)) (fun (i : Nat) => D.int (i : Int)) rfl (id_range1 (by rfl) B.«range» (ED.eq (ed_bin (ed_ix (ed_var 3 rfl) ed_int (by walk_at "ix")) (ed_bin (ed_var 1 rfl) ed_int (by walk_at "b2")) (by walk_at "b2")) (show _ = (D.int n9) from by rw [hn9])) (by walk_at "side")) (by exact rngD0 _) (U := Sl × Sl) (fun i u => [(4, .sh (.lst ((qNs c i).map .str))), (5, .ow (.lst ((qDfs c dp i).map Df.e))), (6, u.1), (7, u.2)]) (fun r => (r.getD 6 .no, r.getD 7 .no)) (fun _ => True) (rfl) (True.intro) ?_ ?_)
  · intro i0 t u0 hx0 hP0
    obtain rfl : i0 = t := by
      obtain ⟨hl, he⟩ := List.getElem?_eq_some_iff.mp hx0
      rw [List.getElem_range] at he; exact he
    have hi0 : i0 < n9.toNat := by have := (List.getElem?_eq_some_iff.mp hx0).1; rwa [List.length_range] at this
    have hln := qNs_len c i0
    have hlf := qDfs_len c dp i0
    refine ⟨_, _, (dg_name 6 nd), ?_⟩
    walk_at "env"
    refine ws_cons (ws_set 7 nd (ED.eq (ed_bin (ed_bin (ed_sliceS (ed_call G_law_name (hr.mono (by decide)) (by rfl) (ad_cons (ed_ix (ed_var 3 rfl) (ed_var 6 rfl) (by walk_at "ix")) ad_nil) (by exact .mk _ (dr_lo _ _ _).1)) (nmOf_len _) no_part (some_part ed_int)) ed_str (b2_addS (e1_len _))) (ed_callT (T := "str") (by rfl) B.«str» bb_str (ad_cons (ed_var 6 rfl) ad_nil) (bc_strI (log_small hi0 (by omega)))) (b2_addS (e2_len _ (by omega)))) (show _ = D.str (qNm9 c i0) by rw [cutE]; rfl)) ?_)
    walk_at "env"
    refine ws_cons (ws_append 5 rfl (ed_tup (ad_cons (ed_var 7 rfl) (ad_cons (ed_call G_law_qexpression_d3 (hr.mono (by decide)) (by rfl) (ad_cons (ed_var 3 rfl) (ad_cons (ed_bin (ed_bin ed_int (ed_var 6 rfl) (by walk_at "b2")) (ed_bin (ed_ix (ed_var 3 rfl) ed_int (by walk_at "ix")) ed_int (by walk_at "b2")) (by walk_at "b2")) (ad_cons (ed_bin ed_int (ed_bin (ed_bin (ed_ix (ed_var 3 rfl) (ed_var 6 rfl) (by walk_at "ix")) (ed_ix (ed_var 3 rfl) ed_int (by walk_at "ix")) (by walk_at "b2")) (ed_var 2 rfl) (by walk_at "b2")) (by walk_at "b2")) (ad_cons (ed_var 4 rfl) ad_nil)))) (by exact .mk c (qNs c i0) _ _ (by rw [qNs_len]; omega) (by rw [qNs_len]; omega) (by have := Int.emod_lt_of_pos (dr c 90 (i0 : Int) + dr c 90 87) (b := dp) (by omega); omega))) ad_nil))) (by rw [List.length_map, sizeLine_eq]; omega) ?_ (fun h => ps_expr (pe_bm PySem.F.plainAttrs_list PySem.F.slot_list_append PySem.F.type_list_append mt_append (pv 5) h)))
    walk_at "env"
    refine ws_cons (ws_set 4 nd (ED.eq (ed_lst (eo_cat (ed_var 4 rfl) (ed_lst (eo_lst (ad_cons (ed_var 7 rfl) ad_nil))) (by walk_at "side"))) (show _ = (.lst ((qNs c (i0 + 1)).map .str)) from by rw [qNs_succ, List.map_append]; rfl)) ?_)
    walk_at "env"
    refine ws_nil ?_
    refine ⟨?_, True.intro⟩
    rw [qDfs_succ, List.map_append]
    rfl
  · intro u0 hP0
    walk_at "env"
    rw [List.length_range]
    refine ws_share 5 rfl ?_
    walk_at "env"
    refine ws_cons (ws_ret (ED.eq (ed_var 5 rfl) ?_) (Or.inl rfl))
    rw [← hn9]
abbrev s_law_qrule : Stmt := top 41
theorem sc_law_qrule : FnScope ["draw", "more", "names", "kind", "at", "other", "n"] ["draw", "more", "names"] (defScope s_law_qrule) := ⟨rfl, rfl, rfl, by decide +kernel, rfl, by decide +kernel, by decide +kernel⟩
theorem ok_law_qrule {f : Addr} {fd : FuncData} (F : Fun K "_law_qrule" "_law_qrule" s_law_qrule f fd) (B : Bt mg) (KC : Kt K mg) (KL : Lt K mg) (WD : Zdt K w mg) (XF : Xt K mg)  :
    FnOk P w K mg base CX0 1 f fd ["draw", "more", "names"] (spR K R_law_qrule) := by
  refine fn_ok (k := 0) F sc_law_qrule (fun ds d h => by cases h; rfl) fun ds d hR cdv A outer s H E hr => ?_
  have nd := sc_law_qrule.nd
  have hu := hr.units
  rcases hR with ⟨N, q, m, hN⟩
  obtain ⟨k, hk⟩ : ∃ k, k = qKi q := ⟨_, rfl⟩
  have a1 := Int.emod_nonneg (q / 7) (b := (N.length : Int)) (by omega)
  have a2 := Int.emod_lt_of_pos (q / 7) (b := (N.length : Int)) (by omega)
  walk_at "en"
  refine ws_cons (ws_set 3 nd (ED.eq (ed_ix (ED.eq (ed_lst (eo_lst (ad_cons ed_str (ad_cons ed_str (ad_cons ed_str (ad_cons ed_str (ad_cons ed_str (ad_cons ed_str (ad_cons ed_str ad_nil))))))))) (show _ = D.lst (kinD.map .str) from rfl)) (ed_bin (ed_var 0 rfl) ed_int (by walk_at "b2")) (.l (at_getC (xs := kinD) (f := D.str) (i := q % 7) (a := "") (by show _ ∧ _ < (7 : Int); omega)))) (show _ = D.str k by rw [hk]; rfl)) ?_)
  walk_at "env"
  refine ws_cons (ws_set 4 nd (ed_bin (ed_bin (ed_var 0 rfl) ed_int (by walk_at "b2")) (ED.eq (ed_callB (id := "len") (by rfl) B.«len» bb_len (ad_cons (ed_var 2 rfl) ad_nil) (by walk_at "bc")) (show _ = (D.int (N.length : Int)) from by rw [List.length_map])) (by walk_at "b2")) ?_)
  walk_at "env"
  refine ws_cons (ws_set 5 nd (ED.eq (ed_ix (ED.eq (ed_var 2 rfl) rfl) (ed_bin (ed_bin (ed_bin (ed_var 4 rfl) ed_int (by walk_at "b2")) (ed_bin (ed_var 1 rfl) (ed_bin (ED.eq (ed_callB (id := "len") (by rfl) B.«len» bb_len (ad_cons (ed_var 2 rfl) ad_nil) (by walk_at "bc")) (show _ = (D.int (N.length : Int)) from by rw [List.length_map])) ed_int (by walk_at "b2")) (by walk_at "b2")) (by walk_at "b2")) (ED.eq (ed_callB (id := "len") (by rfl) B.«len» bb_len (ad_cons (ed_var 2 rfl) ad_nil) (by walk_at "bc")) (show _ = (D.int (N.length : Int)) from by rw [List.length_map])) (by walk_at "b2")) (.l (at_getC (xs := N) (f := D.str) (i := qO N q m % (N.length : Int)) (a := "") ⟨Int.emod_nonneg _ (by omega), Int.emod_lt_of_pos _ (by omega)⟩))) (show _ = D.str (nAt N (qO N q m)) from rfl)) ?_)
  walk_at "env"
  refine ws_cons (ws_set 6 nd (ed_bin ed_int (ed_bin (ed_bin (ed_var 1 rfl) ed_int (by walk_at "b2")) ed_int (by walk_at "b2")) (by walk_at "b2")) ?_)
  walk_at "env"
  refine ws_cons (ws_if (td_cmp (ed_var 3 rfl) ed_str (by walk_at "c2")) (fun hc1 => ?_) (fun hc1 => ?_))
  · skip
    have h1 : k = "area" := of_decide_eq_true hc1
    refine ws_cons (ws_ret (ED.eq (ed_tup (ad_cons (ed_var 3 rfl) (ad_cons (ED.eq (ed_ix (ED.eq (ed_var 2 rfl) rfl) (ed_var 4 rfl) (.l (at_getC (xs := N) (f := D.str) (i := q / 7 % (N.length : Int)) (a := "") ⟨a1, a2⟩))) (show _ = D.str (nAt N (q / 7)) from rfl)) (ad_cons (ed_bin ed_int (ed_bin (ed_bin (ed_var 1 rfl) ed_int (by walk_at "b2")) ed_int (by walk_at "b2")) (by walk_at "b2")) ad_nil)))) ?_) (Or.inl rfl))
    unfold qRu
    rw [← hk, if_pos h1]
    rfl
  · skip
    have h1 : ¬ k = "area" := of_decide_eq_false hc1
    refine ws_nil ?_
    refine ws_cons (ws_if (td_cmp (ed_var 3 rfl) ed_str (by walk_at "c2")) (fun hc2 => ?_) (fun hc2 => ?_))
    · skip
      have h2 : k = "size" := of_decide_eq_true hc2
      refine ws_cons (ws_ret (ED.eq (ed_tup (ad_cons (ed_var 3 rfl) (ad_cons (ED.eq (ed_ix (ED.eq (ed_var 2 rfl) rfl) (ed_var 4 rfl) (.l (at_getC (xs := N) (f := D.str) (i := q / 7 % (N.length : Int)) (a := "") ⟨a1, a2⟩))) (show _ = D.str (nAt N (q / 7)) from rfl)) (ad_cons (ed_var 6 rfl) (ad_cons (ed_bin ed_int (ed_bin (ed_bin (ed_var 1 rfl) ed_int (by walk_at "b2")) ed_int (by walk_at "b2")) (by walk_at "b2")) ad_nil))))) ?_) (Or.inl rfl))
      unfold qRu
      rw [← hk, if_neg h1, if_pos h2]
      rfl
    · skip
      have h2 : ¬ k = "size" := of_decide_eq_false hc2
      refine ws_nil ?_
      refine ws_cons (ws_if (td_cmp (ed_var 3 rfl) ed_str (by walk_at "c2")) (fun hc3 => ?_) (fun hc3 => ?_))
      · skip
        have h3 : k = "never" := of_decide_eq_true hc3
        refine ws_cons (ws_ret (ED.eq (ed_tup (ad_cons (ed_var 3 rfl) (ad_cons (ED.eq (ed_ix (ED.eq (ed_var 2 rfl) rfl) (ed_var 4 rfl) (.l (at_getC (xs := N) (f := D.str) (i := q / 7 % (N.length : Int)) (a := "") ⟨a1, a2⟩))) (show _ = D.str (nAt N (q / 7)) from rfl)) (ad_cons (ed_var 5 rfl) ad_nil)))) ?_) (Or.inl rfl))
        unfold qRu
        rw [← hk, if_neg h1, if_neg h2, if_pos h3]
        rfl
      · skip
        have h3 : ¬ k = "never" := of_decide_eq_false hc3
        refine ws_nil ?_
        refine ws_cons (ws_if (td_tw (tw_or (td_cmp (ed_var 3 rfl) ed_str (by walk_at "c2")) (fun hb5 => (tw_or1 (td_cmp (ed_var 3 rfl) ed_str (by walk_at "c2")))))) (fun hc4 => ?_) (fun hc4 => ?_))
        · skip
          have h4 : k = "apart" ∨ k = "cover" := by simpa using hc4
          refine ws_cons (ws_ret (ED.eq (ed_tup (ad_cons (ed_var 3 rfl) (ad_cons (ED.eq (ed_ix (ED.eq (ed_var 2 rfl) rfl) (ed_var 4 rfl) (.l (at_getC (xs := N) (f := D.str) (i := q / 7 % (N.length : Int)) (a := "") ⟨a1, a2⟩))) (show _ = D.str (nAt N (q / 7)) from rfl)) (ad_cons (ed_var 5 rfl) (ad_cons (ed_bin (ed_var 6 rfl) ed_int (by walk_at "b2")) ad_nil))))) ?_) (Or.inl rfl))
          unfold qRu
          rw [← hk, if_neg h1, if_neg h2, if_neg h3, if_pos h4]
          rfl
        · skip
          have h4 : ¬ (k = "apart" ∨ k = "cover") := by simpa using hc4
          refine ws_nil ?_
          refine ws_cons (ws_ret (ED.eq (ed_tup (ad_cons (ed_var 3 rfl) (ad_cons (ED.eq (ed_ix (ED.eq (ed_var 2 rfl) rfl) (ed_var 4 rfl) (.l (at_getC (xs := N) (f := D.str) (i := q / 7 % (N.length : Int)) (a := "") ⟨a1, a2⟩))) (show _ = D.str (nAt N (q / 7)) from rfl)) (ad_cons (ed_var 6 rfl) ad_nil)))) ?_) (Or.inl rfl))
          unfold qRu
          rw [← hk, if_neg h1, if_neg h2, if_neg h3, if_neg h4]
          rfl
abbrev s_law_qrules : Stmt := top 42
theorem sc_law_qrules : FnScope ["cell", "most", "names", "draws", "k"] ["cell", "most", "names"] (defScope s_law_qrules) := ⟨rfl, rfl, rfl, by decide +kernel, rfl, by decide +kernel, by decide +kernel⟩
theorem ok_law_qrules {f : Addr} {fd : FuncData} (F : Fun K "_law_qrules" "_law_qrules" s_law_qrules f fd) (B : Bt mg) (KC : Kt K mg) (KL : Lt K mg) (WD : Zdt K w mg) (XF : Xt K mg) (G_law_draws : Fn P w K mg base "_law_draws" 1 R_law_draws) (G_law_qrule : Fn P w K mg base "_law_qrule" 1 R_law_qrule) :
    FnOk P w K mg base CX0 2 f fd ["cell", "most", "names"] (spR K R_law_qrules) := by
  refine fn_ok (k := 1) F sc_law_qrules (fun ds d h => by cases h; rfl) fun ds d hR cdv A outer s H E hr => ?_
  have nd := sc_law_qrules.nd
  have hu := hr.units
  rcases hR with ⟨N, c, most, hm, hN⟩
  obtain ⟨n9, hn9⟩ : ∃ n : Int, n = dr c (2 * most + 1) (2 * most) % (most + 1) := ⟨_, rfl⟩
  have hnb : 0 ≤ n9 ∧ n9 ≤ most := by have := Int.emod_lt_of_pos (dr c (2 * most + 1) (2 * most)) (b := most + 1) (by omega); have := Int.emod_nonneg (dr c (2 * most + 1) (2 * most)) (b := most + 1) (by omega); omega
  walk_at "en"
  refine ws_cons (ws_set 3 nd (ed_call G_law_draws (hr.mono (by decide)) (by rfl) (ad_cons (ed_var 0 rfl) (ad_cons (ed_bin (ed_bin ed_int (ed_var 1 rfl) (by walk_at "b2")) ed_int (by walk_at "b2")) ad_nil)) (by exact .mk _ _ (by omega) (by omega))) ?_)
  walk_at "env"
  refine ws_cons (ws_ret (ED.eq (ed_lst (eo_map2 [("k", 4)] (List.range n9.toNat) (fun (i : Nat) => D.int (i : Int)) (fun (k : Nat) => qRu N (dr c (2 * most + 1) (2 * (k : Int))) (dr c (2 * most + 1) (2 * (k : Int) + 1))) (ruX) rfl nd (blkOk_by (N := ["cell", "most", "names", "draws", "k"]) (sc := defScope s_law_qrules) (by decide +kernel)) (id_range1 (by rfl) B.«range» (ED.eq (ed_bin (ed_ix (ed_var 3 rfl) (ed_bin ed_int (ed_var 1 rfl) (by walk_at "b2")) (by walk_at "ix")) (ed_bin (ed_var 1 rfl) ed_int (by walk_at "b2")) (by walk_at "b2")) (show _ = (D.int n9) from by rw [hn9])) (by walk_at "side")) (rngD0 _) (fun k hxm => by have hk9 := List.mem_range.mp hxm; exact ⟨_, by rfl, fun _ _ _ _ _ => ⟨(dg_name 4 nd), tds_nil, (ed_call G_law_qrule (hr.mono (by decide)) (by rfl) (ad_cons (ed_ix (ed_var 3 rfl) (ed_bin ed_int (ed_var 4 rfl) (by walk_at "b2")) (by walk_at "ix")) (ad_cons (ed_ix (ed_var 3 rfl) (ed_bin (ed_bin ed_int (ed_var 4 rfl) (by walk_at "b2")) ed_int (by walk_at "b2")) (by walk_at "ix")) (ad_cons (ed_var 2 rfl) ad_nil))) (by exact .mk _ _ _ (by omega)))⟩⟩) (by rw [List.length_range, sizeLine_eq]; omega))) ?_) (Or.inl rfl))
  unfold qRus
  rw [← hn9]
abbrev s_law_refused : Stmt := top 43
theorem sc_law_refused : FnScope ["definitions", "rules", "e"] ["definitions", "rules"] (defScope s_law_refused) := ⟨rfl, rfl, rfl, by decide +kernel, rfl, by decide +kernel, by decide +kernel⟩
theorem ok_law_refused {f : Addr} {fd : FuncData} (F : Fun K "_law_refused" "_law_refused" s_law_refused f fd) (B : Bt mg) (KC : Kt K mg) (KL : Lt K mg) (WD : Zdt K w mg) (XF : Xt K mg)  (GX_Deck_init : FnIXG P w K mg base "Deck" 15 RX_Deck_init) :
    FnOk P w K mg base CX0 17 f fd ["definitions", "rules"] (spR K R_law_refused) := by
  refine fn_ok (k := 16) F sc_law_refused (fun ds d h => by cases h; rfl) fun ds d hR cdv A outer s H E hr => ?_
  have nd := sc_law_refused.nd
  have hu := hr.units
  rcases hR with ⟨F, Q, hs, bad⟩
  walk_at "en"
  refine ws_cons (ws_tryGS 2 nd XF.«m1» (by rfl) (fun pn xe po => ?_) (fun ea eC eo pn ehC ehz ehf => ?_))
  · skip
    exact xg_head (xg_expr (eg_make GX_Deck_init (hr.mono (by decide)) (by rfl) (ad_cons (ed_var 0 rfl) (ad_cons (ed_var 1 rfl) ad_nil)) (by exact .mk _ _ (by assumption) (by assumption))))
  · skip
    walk_at "env"
    refine ws_cons (ws_ret (ED.eq (ed_and (ed_isEN XF.«InvalidDeck» XF.«i1» ehC ehz.zc ehf (by rfl) B.«isinstance» (by rfl) (ed_var 2 rfl)) (fun hb1 => (ed_one (ed_not (ed_isEN2 XF.«InvalidDeck» XF.«i2» XF.«i3» ehC ehz.zc ehf (by rfl) B.«isinstance» (by rfl) (by rfl) (ed_var 2 rfl)))))) ?_) (Or.inl rfl))
    rfl
abbrev s_law_tower : Stmt := top 44
theorem sc_law_tower : FnScope ["count", "tower", "k"] ["count"] (defScope s_law_tower) := ⟨rfl, rfl, rfl, by decide +kernel, rfl, by decide +kernel, by decide +kernel⟩
theorem ok_law_tower {f : Addr} {fd : FuncData} (F : Fun K "_law_tower" "_law_tower" s_law_tower f fd) (B : Bt mg) (KC : Kt K mg) (KL : Lt K mg) (WD : Zdt K w mg) (XF : Xt K mg)  :
    FnOk P w K mg base CX0 1 f fd ["count"] (spR K R_law_tower) := by
  refine fn_ok (k := 0) F sc_law_tower (fun ds d h => by cases h; rfl) fun ds d hR cdv A outer s H E hr => ?_
  have nd := sc_law_tower.nd
  have hu := hr.units
  rcases hR with ⟨n, hn⟩
  walk_at "en"
  refine ws_cons (ws_set 1 nd (ed_tup (ad_cons ed_str (ad_cons ed_str ad_nil))) ?_)
  walk_at "env"
  refine ws_cons (ws_forU (List.range ((n - 1).toNat)) (fun (i : Nat) => D.int (i : Int)) rfl (id_range1 (by rfl) B.«range» (ed_bin (ed_var 0 rfl) ed_int (by walk_at "b2")) (by walk_at "side")) (by exact rngD0 _) (U := Sl) (fun i u => [(1, .sh (tow i).e), (2, u)]) (fun r => (r.getD 2 .no)) (fun _ => True) (rfl) (True.intro) ?_ ?_)
  · intro i0 t u0 hx0 hP0
    obtain rfl : i0 = t := by
      obtain ⟨hl, he⟩ := List.getElem?_eq_some_iff.mp hx0
      rw [List.getElem_range] at he; exact he
    have hi0 : i0 < (n - 1).toNat := by have := (List.getElem?_eq_some_iff.mp hx0).1; rwa [List.length_range] at this
    refine ⟨_, _, (dg_name 2 nd), ?_⟩
    walk_at "env"
    refine ws_cons (ws_if (td_cmp (ed_bin (ed_var 2 rfl) ed_int (by walk_at "b2")) ed_int (by walk_at "c2")) (fun hc1 => ?_) (fun hc1 => ?_))
    · skip
      have h0 : i0 % 3 = 0 := by have := of_decide_eq_true hc1; omega
      refine ws_cons (ws_set 1 nd (ed_tup (ad_cons ed_str (ad_cons (ed_tup (ad_cons ed_str (ad_cons ed_str ad_nil))) (ad_cons (ed_var 1 rfl) ad_nil)))) ?_)
      walk_at "env"
      refine ws_nil ?_
      refine ws_nil ?_
      refine ⟨?_, True.intro⟩
      rw [tow]
      first
        | (rw [if_pos h0]; rfl)
        | (rw [if_neg h0, if_pos h1]; rfl)
        | (rw [if_neg h0, if_neg h1]; rfl)
    · skip
      have h0 : ¬ i0 % 3 = 0 := by have := of_decide_eq_false hc1; omega
      refine ws_cons (ws_if (td_cmp (ed_bin (ed_var 2 rfl) ed_int (by walk_at "b2")) ed_int (by walk_at "c2")) (fun hc2 => ?_) (fun hc2 => ?_))
      · skip
        have h1 : i0 % 3 = 1 := by have := of_decide_eq_true hc2; omega
        refine ws_cons (ws_set 1 nd (ed_tup (ad_cons ed_str (ad_cons ed_int (ad_cons (ed_var 1 rfl) ad_nil)))) ?_)
        walk_at "env"
        refine ws_nil ?_
        refine ws_nil ?_
        refine ws_nil ?_
        refine ⟨?_, True.intro⟩
        rw [tow]
        first
          | (rw [if_pos h0]; rfl)
          | (rw [if_neg h0, if_pos h1]; rfl)
          | (rw [if_neg h0, if_neg h1]; rfl)
      · skip
        have h1 : ¬ i0 % 3 = 1 := by have := of_decide_eq_false hc2; omega
        refine ws_cons (ws_set 1 nd (ed_tup (ad_cons ed_str (ad_cons (ed_var 1 rfl) (ad_cons (ed_tup (ad_cons ed_str (ad_cons ed_str ad_nil))) ad_nil)))) ?_)
        walk_at "env"
        refine ws_nil ?_
        refine ws_nil ?_
        refine ws_nil ?_
        refine ⟨?_, True.intro⟩
        rw [tow]
        first
          | (rw [if_pos h0]; rfl)
          | (rw [if_neg h0, if_pos h1]; rfl)
          | (rw [if_neg h0, if_neg h1]; rfl)
  · intro u0 hP0
    walk_at "env"
    rw [List.length_range]
    refine ws_cons (ws_ret (ED.eq (ed_var 1 rfl) ?_) (Or.inl rfl))
    rfl
abbrev s_law_bad_expressions : Stmt := top 45
theorem sc_law_bad_expressions : FnScope ["draw", "name", "wrong", "layer", "found"] ["draw", "name"] (defScope s_law_bad_expressions) := ⟨rfl, rfl, rfl, by decide +kernel, rfl, by decide +kernel, by decide +kernel⟩
theorem ok_law_bad_expressions {f : Addr} {fd : FuncData} (F : Fun K "_law_bad_expressions" "_law_bad_expressions" s_law_bad_expressions f fd) (B : Bt mg) (KC : Kt K mg) (KL : Lt K mg) (WD : Zdt K w mg) (XF : Xt K mg) (G_law_tower : Fn P w K mg base "_law_tower" 1 R_law_tower) :
    FnOk P w K mg base CX0 2 f fd ["draw", "name"] (spR K R_law_bad_expressions) := by
  refine fn_ok (k := 1) F sc_law_bad_expressions (fun ds d h => by cases h; rfl) fun ds d hR cdv A outer s H E hr => ?_
  have nd := sc_law_bad_expressions.nd
  have hu := hr.units
  rcases hR with ⟨d, nm, hd⟩
  walk_at "en"
  refine ws_cons (ws_set 2 nd (ED.eq (ed_ix (ED.eq (ed_lst (eo_lst (ad_cons (ed_bin (ed_neg ed_int) (ed_var 0 rfl) (by walk_at "b2")) (ad_cons ed_int (ad_cons (ed_bin ed_int (ed_var 0 rfl) (by walk_at "b2")) ad_nil))))) (show _ = D.lst (([-1 - d, 1001, 1001 + d] : List Int).map .int) from rfl)) (ed_bin (ed_var 0 rfl) ed_int (by walk_at "b2")) (.l (at_getC (xs := ([-1 - d, 1001, 1001 + d] : List Int)) (f := D.int) (i := d % 3) (a := 0) (by show _ ∧ _ < (3 : Int); omega)))) rfl) ?_)
  walk_at "env"
  refine ws_cons (ws_set 3 nd (ed_tup (ad_cons ed_str (ad_cons ed_str ad_nil))) ?_)
  walk_at "env"
  refine ws_cons (ws_setO 4 nd (eo_lst (ad_cons (ed_tup (ad_cons ed_str (ad_cons (ED.eq (ed_ix (ED.eq (ed_lst (eo_lst (ad_cons ed_str (ad_cons (ed_var 1 rfl) (ad_cons ed_str (ad_cons ed_str ad_nil)))))) (show _ = D.lst ((["steel", nm, "later", ""] : List Str).map .str) from rfl)) (ed_bin (ed_var 0 rfl) ed_int (by walk_at "b2")) (.l (at_getC (xs := (["steel", nm, "later", ""] : List Str)) (f := D.str) (i := d % 4) (a := "") (by show _ ∧ _ < (4 : Int); omega)))) rfl) ad_nil))) (ad_cons (ed_tup (ad_cons ed_str (ad_cons (ed_var 2 rfl) (ad_cons (ed_var 3 rfl) ad_nil)))) (ad_cons (ed_tup (ad_cons ed_str (ad_cons (ed_var 2 rfl) (ad_cons (ed_var 3 rfl) ad_nil)))) (ad_cons (ed_tup (ad_cons ed_str (ad_cons (ed_var 2 rfl) (ad_cons (ed_var 3 rfl) ad_nil)))) ad_nil))))) ?_)
  refine ws_share 4 rfl ?_
  walk_at "env"
  refine ws_cons (ws_ret (ED.eq (ed_lst (eo_cat (ed_var 4 rfl) (ed_lst (eo_lst (ad_cons (ed_tup (ad_cons ed_str (ad_cons ed_int (ad_cons (ed_var 3 rfl) ad_nil)))) (ad_cons (ED.eq (d' := (tow 12).e) (ed_call G_law_tower (hr.mono (by decide)) (by rfl) (ad_cons ed_int ad_nil) (by exact .mk _ (by omega))) rfl) (ad_cons (ed_tup (ad_cons ed_str (ad_cons (ed_var 3 rfl) (ad_cons (ed_tup (ad_cons ed_str (ad_cons ed_int (ad_cons (ed_var 3 rfl) ad_nil)))) ad_nil)))) (ad_cons (ed_tup (ad_cons ed_str (ad_cons (ed_tup (ad_cons ed_str (ad_cons ed_str ad_nil))) (ad_cons (ed_var 3 rfl) ad_nil)))) ad_nil)))))) (by walk_at "side"))) ?_) (Or.inl rfl))
  rfl
abbrev s_law_bad_rules : Stmt := top 46
theorem sc_law_bad_rules : FnScope ["draw", "wrong", "low", "found"] ["draw"] (defScope s_law_bad_rules) := ⟨rfl, rfl, rfl, by decide +kernel, rfl, by decide +kernel, by decide +kernel⟩
theorem ok_law_bad_rules {f : Addr} {fd : FuncData} (F : Fun K "_law_bad_rules" "_law_bad_rules" s_law_bad_rules f fd) (B : Bt mg) (KC : Kt K mg) (KL : Lt K mg) (WD : Zdt K w mg) (XF : Xt K mg)  :
    FnOk P w K mg base CX0 1 f fd ["draw"] (spR K R_law_bad_rules) := by
  refine fn_ok (k := 0) F sc_law_bad_rules (fun ds d h => by cases h; rfl) fun ds d hR cdv A outer s H E hr => ?_
  have nd := sc_law_bad_rules.nd
  have hu := hr.units
  rcases hR with ⟨d, hd⟩
  walk_at "en"
  refine ws_cons (ws_set 1 nd (ED.eq (ed_ix (ED.eq (ed_lst (eo_lst (ad_cons ed_int (ad_cons (ed_bin (ed_neg ed_int) (ed_var 0 rfl) (by walk_at "b2")) (ad_cons ed_int ad_nil))))) (show _ = D.lst (([0, -1 - d, 1001] : List Int).map .int) from rfl)) (ed_bin (ed_var 0 rfl) ed_int (by walk_at "b2")) (.l (at_getC (xs := ([0, -1 - d, 1001] : List Int)) (f := D.int) (i := d % 3) (a := 0) (by show _ ∧ _ < (3 : Int); omega)))) rfl) ?_)
  walk_at "env"
  refine ws_cons (ws_set 2 nd (ED.eq (ed_ix (ED.eq (ed_lst (eo_lst (ad_cons (ed_neg ed_int) (ad_cons (ed_bin (ed_neg ed_int) (ed_var 0 rfl) (by walk_at "b2")) (ad_cons ed_int ad_nil))))) (show _ = D.lst (([-1, -1 - d, 1001] : List Int).map .int) from rfl)) (ed_bin (ed_var 0 rfl) ed_int (by walk_at "b2")) (.l (at_getC (xs := ([-1, -1 - d, 1001] : List Int)) (f := D.int) (i := d % 3) (a := 0) (by show _ ∧ _ < (3 : Int); omega)))) rfl) ?_)
  walk_at "env"
  refine ws_cons (ws_setO 3 nd (eo_lst (ad_cons (ed_tup (ad_cons ed_str (ad_cons ed_str (ad_cons ed_int ad_nil)))) (ad_cons (ed_tup (ad_cons ed_str (ad_cons ed_str (ad_cons (ed_var 1 rfl) ad_nil)))) (ad_cons (ed_tup (ad_cons ed_str (ad_cons ed_str (ad_cons (ed_var 1 rfl) ad_nil)))) (ad_cons (ed_tup (ad_cons ed_str (ad_cons ed_str (ad_cons (ed_var 1 rfl) ad_nil)))) (ad_cons (ed_tup (ad_cons ed_str (ad_cons ed_str (ad_cons ed_int (ad_cons (ed_var 1 rfl) ad_nil))))) ad_nil)))))) ?_)
  refine ws_share 3 rfl ?_
  walk_at "env"
  refine ws_cons (ws_set 3 nd (ed_lst (eo_cat (ed_var 3 rfl) (ed_lst (eo_lst (ad_cons (ed_tup (ad_cons ed_str (ad_cons ed_str (ad_cons (ed_var 1 rfl) (ad_cons ed_int ad_nil))))) (ad_cons (ed_tup (ad_cons ed_str (ad_cons ed_str (ad_cons ed_str (ad_cons (ed_var 2 rfl) ad_nil))))) (ad_cons (ed_tup (ad_cons ed_str (ad_cons ed_str (ad_cons ed_str (ad_cons (ed_var 2 rfl) ad_nil))))) (ad_cons (ed_tup (ad_cons ed_str (ad_cons ed_str (ad_cons ed_str ad_nil)))) ad_nil)))))) (by walk_at "side"))) ?_)
  walk_at "env"
  refine ws_cons (ws_ret (ED.eq (ed_lst (eo_cat (ed_var 3 rfl) (ed_lst (eo_lst (ad_cons (ed_tup (ad_cons ed_str (ad_cons ed_str (ad_cons ed_str (ad_cons ed_int ad_nil))))) (ad_cons (ed_tup (ad_cons ed_str (ad_cons ed_str (ad_cons ed_str (ad_cons ed_int ad_nil))))) (ad_cons (ed_tup (ad_cons ed_str (ad_cons ed_str (ad_cons ed_str ad_nil)))) (ad_cons (ed_tup (ad_cons ed_str (ad_cons ed_str (ad_cons ed_str (ad_cons ed_int ad_nil))))) ad_nil)))))) (by walk_at "side"))) ?_) (Or.inl rfl))
  rfl
abbrev s_law : Stmt := top 47
theorem sc_law : FnScope ["script", "definitions", "names", "rules", "handed", "deck", "draws", "at", "words", "word", "bad", "many", "k", "row"] ["script"] (defScope s_law) := ⟨rfl, rfl, rfl, by decide +kernel, rfl, by decide +kernel, by decide +kernel⟩
theorem ok_law {f : Addr} {fd : FuncData} (F : Fun K "law" "law" s_law f fd) (B : Bt mg) (KC : Kt K mg) (KL : Lt K mg) (WD : Zdt K w mg) (XF : Xt K mg) (G_Deck_init : FnI P w K mg base "Deck" 15 R_Deck_init) (G_law_bad_expressions : Fn P w K mg base "_law_bad_expressions" 2 R_law_bad_expressions) (G_law_bad_rules : Fn P w K mg base "_law_bad_rules" 1 R_law_bad_rules) (G_law_cell : Fn P w K mg base "_law_cell" 1 R_law_cell) (G_law_draws : Fn P w K mg base "_law_draws" 1 R_law_draws) (G_law_is_number : Fn P w K mg base "_law_is_number" 2 R_law_is_number) (G_law_layers : Fn P w K mg base "_law_layers" 1 R_law_layers) (G_law_like_m6 : Fn P w K mg base "_law_like" 8 R_law_like_m6) (G_law_like_m6 : Fn P w K mg base "_law_like" 8 R_law_like_m6) (G_law_qbad_name : Fn P w K mg base "_law_qbad_name" 1 R_law_qbad_name) (G_law_qdefinitions : Fn P w K mg base "_law_qdefinitions" 5 R_law_qdefinitions) (G_law_qrules : Fn P w K mg base "_law_qrules" 2 R_law_qrules) (G_law_refused : Fn P w K mg base "_law_refused" 17 R_law_refused) (G_law_tower : Fn P w K mg base "_law_tower" 1 R_law_tower) (G_expression_depth : Fn P w K mg base "expression_depth" 3 R_expression_depth) :
    FnOk P w K mg base CX0 18 f fd ["script"] (spR K R_law) := by
  refine fn_ok (k := 17) F sc_law (fun ds d h => by cases h; rfl) fun ds d hR cdv A outer s H E hr => ?_
  have nd := sc_law.nd
  have hu := hr.units
  rcases hR with ⟨ns, hlen⟩
  obtain ⟨n9, hn9⟩ : ∃ n : Nat, n = (dr (cellAt ns 0) 90 89 % (5 + 1)).toNat := ⟨_, rfl⟩
  have hn5 : n9 ≤ 5 := by omega
  obtain ⟨F, hF⟩ : ∃ F, F = qDfs (cellAt ns 0) 4 n9 := ⟨_, rfl⟩
  have hFl : F.length = n9 := by rw [hF]; exact qDfs_len _ _ _
  obtain ⟨Q, hQ⟩ : ∃ Q, Q = qRus (lyN F) (cellAt ns 1) 5 := ⟨_, rfl⟩
  have ok : DkOk F Q := by rw [hQ, hF]; exact q_dkOk hn5
  have hQl : Q.length ≤ 5 := by rw [hQ]; exact qRus_len _ _
  have hmF : ∀ d ∈ F.map Df.e, MD 5 d := by rw [hF]; exact q_md
  have hmQ : ∀ d ∈ Q.map ruX, MD 5 d := fun d hd => by obtain ⟨r, hr, rfl⟩ := List.mem_map.mp hd; exact ru_md (ok.s.fm r hr)
  have hno : ∀ x : Str, endD x = false → x ∉ lays → ∀ a, x ∉ lyN (F.take a) := fun x h1 h2 a => by rw [hF]; exact q_no (by omega) h1 h2
  have hnoF : ∀ x : Str, endD x = false → x ∉ lays → x ∉ lyN F := fun x h1 h2 h => hno x h1 h2 F.length (by rw [List.take_length]; exact h)
  obtain ⟨a9, ha9⟩ : ∃ a : Nat, dr (cellAt ns 2) 4 0 % ((F.length : Int) + 1) = (a : Int) := ⟨(dr (cellAt ns 2) 4 0 % ((F.length : Int) + 1)).toNat, by have := Int.emod_nonneg (dr (cellAt ns 2) 4 0) (b := (F.length : Int) + 1) (by omega); omega⟩
  have ha9l : a9 ≤ F.length := by have := Int.emod_lt_of_pos (dr (cellAt ns 2) 4 0) (b := (F.length : Int) + 1) (by omega); omega
  obtain ⟨b9, hb9⟩ : ∃ a : Nat, dr (cellAt ns 2) 4 0 % ((Q.length : Int) + 1) = (a : Int) := ⟨(dr (cellAt ns 2) 4 0 % ((Q.length : Int) + 1)).toNat, by have := Int.emod_nonneg (dr (cellAt ns 2) 4 0) (b := (Q.length : Int) + 1) (by omega); omega⟩
  have hd3 := dr_lo (cellAt ns 2) 4 3
  have hwords : ∀ w ∈ [wAt (dr (cellAt ns 2) 4 1) (dr (cellAt ns 2) 4 1), wAt (dr (cellAt ns 2) 4 1) (dr (cellAt ns 2) 4 2), w3 F a9], newB (lyN (F.take a9)) w = false ∧ w.length ≤ 1000 := fun w hw => by
    simp only [List.mem_cons, List.not_mem_nil, or_false] at hw
    rcases hw with rfl | rfl | rfl
    · exact wAt_bad _ _
    · exact wAt_bad _ _
    · exact w3_bad ok.s.nl
  walk_at "en"
  refine ws_cons (ws_set 1 nd (ED.eq (ed_call G_law_qdefinitions (hr.mono (by decide)) (by rfl) (ad_cons (ed_call G_law_cell (hr.mono (by decide)) (by rfl) (ad_cons (ed_var 0 rfl) (ad_cons ed_int ad_nil)) (by exact .mk _ _ (by omega))) (ad_cons ed_int (ad_cons ed_int ad_nil))) (by exact .mk _ 5 4 (by decide) (by decide))) (show _ = (D.lst (F.map Df.e)) from by rw [hF, hn9])) ?_)
  walk_at "env"
  refine ws_cons (ws_setO 2 nd (EO.eq (c' := .lst ((lyN F).map .str)) (eo_cat (ed_call0 G_law_layers (hr.mono (by decide)) (by rfl) (by walk_at "mk")) (ed_lst (eo_map2 [("row", 13)] (F) (Df.e) (fun f : Df => f.1) (D.str) rfl nd (blkOk_by (N := ["script", "definitions", "names", "rules", "handed", "deck", "draws", "at", "words", "word", "bad", "many", "k", "row"]) (sc := defScope s_law) (by decide +kernel)) (id_list (ed_var 1 rfl)) (rfl) (fun f hxm => ⟨_, by rfl, fun _ _ _ _ _ => ⟨(dg_name 13 nd), tds_nil, (ed_ix (ED.eq (d' := .tup [.str f.1, f.2.e]) (ed_var 13 rfl) rfl) ed_int IX.t0)⟩⟩) (by rw [sizeLine_eq]; omega))) (by simp only [List.length_map]; rw [sizeLine_eq]; show 7 + F.length ≤ _; omega)) (by unfold lyN; rw [List.map_append, List.map_map])) ?_)
  refine ws_share 2 rfl ?_
  walk_at "env"
  refine ws_cons (ws_set 3 nd (ED.eq (ed_call G_law_qrules (hr.mono (by decide)) (by rfl) (ad_cons (ed_call G_law_cell (hr.mono (by decide)) (by rfl) (ad_cons (ed_var 0 rfl) (ad_cons ed_int ad_nil)) (by exact .mk _ _ (by omega))) (ad_cons ed_int (ad_cons (ed_var 2 rfl) ad_nil))) (by exact .mk (lyN F) _ 5 (by decide) (by rw [lyN_len]; omega))) (show _ = (D.lst (Q.map ruX)) from by rw [hQ])) ?_)
  walk_at "env"
  refine ws_cons (ws_set2O 4 nd (eo_callT (T := "list") (by rfl) B.«list» bb_list (ad_cons (ed_var 1 rfl) ad_nil) (by walk_at "bo")) (eo_callT (T := "list") (by rfl) B.«list» bb_list (ad_cons (ed_var 3 rfl) ad_nil) (by walk_at "bo")) fun pa pb hab => ?_)
  walk_at "env"
  refine ws_cons (ws_setO 5 nd (eo_lend2 4 rfl (noLs_mem (f := id) (xs := [D.tup (F.map Df.e), D.tup (Q.map ruX)]) (fun d hd => by simp only [List.mem_cons, List.not_mem_nil, or_false] at hd; rcases hd with rfl | rfl; exact noL_md (md_tup (by rw [List.length_map]; omega) hmF); exact noL_md (md_tup (by rw [List.length_map]; omega) hmQ))) (eo_make G_Deck_init (hr.mono (by decide)) (by rfl) (ad_cons (ed_ix (ed_var 4 rfl) ed_int IX.l0) (ad_cons (ed_ix (ed_var 4 rfl) ed_int IX.l1) ad_nil)) (.mk F Q ok))) ?_)
  refine ws_share 5 rfl ?_
  walk_at "env"
  refine ws_cons (ws_appendA 4 rfl (List.mem_cons_self) (ed_ix (ed_varX 4 rfl) ed_int IX.l0) ed_int (by rw [List.length_map, sizeLine_eq]; omega) ?_ (fun h h2 => ps_expr (pe_bm PySem.F.plainAttrs_list PySem.F.slot_list_append PySem.F.type_list_append mt_append h h2)))
  simp only [putC, List.map_cons, List.map_nil, if_pos, if_neg (Ne.symm hab), if_true]
  walk_at "env"
  refine ws_cons (ws_appendA 4 rfl (List.mem_cons_of_mem _ (List.mem_cons_self)) (ed_ix (ed_varX 4 rfl) ed_int IX.l1) ed_int (by rw [List.length_map, sizeLine_eq]; omega) ?_ (fun h h2 => ps_expr (pe_bm PySem.F.plainAttrs_list PySem.F.slot_list_append PySem.F.type_list_append mt_append h h2)))
  simp only [putC, List.map_cons, List.map_nil, if_pos, if_neg hab, if_true]
  walk_at "env"
  refine ws_cons (ws_if (td_tw (tw_or (td_not (td_truth (ed_call G_law_like_m6 (hr.mono (by decide)) (by rfl) (ad_cons (ed_fld 0 KL.«Deck» (ed_var 5 rfl)) (ad_cons (ed_callT (T := "tuple") (by rfl) B.«tuple» bb_tuple (ad_cons (ed_var 1 rfl) ad_nil) (by walk_at "bc")) ad_nil)) (by first | exact .mk _ (by rw [List.length_map]; omega) hmF | exact .mk _ (by rw [List.length_map]; omega) hmQ)) rfl)) (fun hb3 => (tw_or1 (td_not (td_truth (ed_call G_law_like_m6 (hr.mono (by decide)) (by rfl) (ad_cons (ed_fld 1 KL.«Deck» (ed_var 5 rfl)) (ad_cons (ed_callT (T := "tuple") (by rfl) B.«tuple» bb_tuple (ad_cons (ed_var 3 rfl) ad_nil) (by walk_at "bc")) ad_nil)) (by first | exact .mk _ (by rw [List.length_map]; omega) hmF | exact .mk _ (by rw [List.length_map]; omega) hmQ)) rfl)))))) (fun hc2 => ?_) (fun hc2 => ?_))
  · skip
    exfalso; simp at hc2
  · skip
    clear hc2
    refine ws_nil ?_
    refine ws_cons (ws_set 6 nd (ed_call G_law_draws (hr.mono (by decide)) (by rfl) (ad_cons (ed_call G_law_cell (hr.mono (by decide)) (by rfl) (ad_cons (ed_var 0 rfl) (ad_cons ed_int ad_nil)) (by exact .mk _ _ (by omega))) (ad_cons ed_int ad_nil)) (by exact .mk _ _ (by omega) (by omega))) ?_)
    walk_at "env"
    refine ws_cons (ws_set 7 nd (ED.eq (ed_bin (ed_ix (ed_var 6 rfl) ed_int (by walk_at "ix")) (ed_bin (ED.eq (ed_callB (id := "len") (by rfl) B.«len» bb_len (ad_cons (ed_var 1 rfl) ad_nil) (by walk_at "bc")) (show _ = (D.int (F.length : Int)) from by rw [List.length_map])) ed_int (by walk_at "b2")) (by walk_at "b2")) (show _ = (D.int (a9 : Int)) from by rw [ha9])) ?_)
    walk_at "env"
    refine ws_cons (ws_setO 8 nd (eo_lst (ad_cons ed_str (ad_cons ed_str (ad_cons ed_str (ad_cons ed_str (ad_cons ed_str (ad_cons ed_str (ad_cons ed_str (ad_cons ed_str (ad_cons ed_str (ad_cons ed_str (ad_cons ed_str (ad_cons (ed_call G_law_qbad_name (hr.mono (by decide)) (by rfl) (ad_cons (ed_ix (ed_var 6 rfl) ed_int (by walk_at "ix")) ad_nil) (by exact .mk _ (dr_lo _ _ _).1)) ad_nil))))))))))))) ?_)
    refine ws_share 8 rfl ?_
    walk_at "env"
    refine ws_cons (ws_setO 8 nd (eo_lst (ad_cons (ED.eq (ed_ix (ED.eq (ed_var 8 rfl) (show _ = D.lst ((w12 (dr (cellAt ns 2) 4 1)).map .str) from rfl)) (ed_bin (ed_ix (ed_var 6 rfl) ed_int (by walk_at "ix")) ed_int (by walk_at "b2")) (.l (at_getC (xs := w12 (dr (cellAt ns 2) 4 1)) (f := D.str) (i := (dr (cellAt ns 2) 4 1) % 12) (a := "") (by show _ ∧ _ < (12 : Int); omega)))) (show _ = D.str (wAt (dr (cellAt ns 2) 4 1) (dr (cellAt ns 2) 4 1)) from rfl)) (ad_cons (ED.eq (ed_ix (ED.eq (ed_var 8 rfl) (show _ = D.lst ((w12 (dr (cellAt ns 2) 4 1)).map .str) from rfl)) (ed_bin (ed_ix (ed_var 6 rfl) ed_int (by walk_at "ix")) ed_int (by walk_at "b2")) (.l (at_getC (xs := w12 (dr (cellAt ns 2) 4 1)) (f := D.str) (i := (dr (cellAt ns 2) 4 2) % 12) (a := "") (by show _ ∧ _ < (12 : Int); omega)))) (show _ = D.str (wAt (dr (cellAt ns 2) 4 1) (dr (cellAt ns 2) 4 2)) from rfl)) (ad_cons (ed_ix (ED.eq (ed_lst (eo_cat (ed_lst (eo_lst (ad_cons ed_str ad_nil))) (ed_lst (eo_map2 [("row", 13)] (F.take a9) (Df.e) (fun f : Df => f.1) (D.str) rfl nd (blkOk_by (N := ["script", "definitions", "names", "rules", "handed", "deck", "draws", "at", "words", "word", "bad", "many", "k", "row"]) (sc := defScope s_law) (by decide +kernel)) (id_list (ED.eq (ed_lst (eo_slice (ed_var 1 rfl) no_part (some_part (ed_var 7 rfl)))) (show _ = D.lst ((F.take a9).map Df.e) from by rw [cutT2 _ (by omega), Int.toNat_natCast, List.map_take]))) (rfl) (fun f hxm => ⟨_, by rfl, fun _ _ _ _ _ => ⟨(dg_name 13 nd), tds_nil, (ed_ix (ED.eq (d' := .tup [.str f.1, f.2.e]) (ed_var 13 rfl) rfl) ed_int IX.t0)⟩⟩) (by rw [List.length_take, sizeLine_eq]; omega))) (by simp only [List.length_map, List.length_take, List.length_cons, List.length_nil]; rw [sizeLine_eq]; omega))) (show _ = D.lst ((((["via"] : List Str) ++ (F.take a9).map (·.1))).map D.str) from (by rw [List.map_append, List.map_map]; rfl))) (ed_neg ed_int) (.l (w3_at F a9))) ad_nil)))) ?_)
    refine ws_share 8 rfl ?_
    walk_at "env"
    refine ws_cons (ws_forU (([wAt (dr (cellAt ns 2) 4 1) (dr (cellAt ns 2) 4 1), wAt (dr (cellAt ns 2) 4 1) (dr (cellAt ns 2) 4 2), w3 F a9] : List Str)) (D.str) rfl (id_list (ed_var 8 rfl)) (by rfl) (U := Sl) (fun i u => [(9, u)]) (fun r => (r.getD 9 .no)) (fun _ => True) (rfl) (True.intro) ?_ ?_)
    · intro i0 w u0 hx0 hP0
      have hw := hwords w (List.mem_of_getElem? hx0)
      have hsp := spoilt ok (by omega) ha9l (f := (w, .lay "via")) hw.2 (T := []) (by decide) (fun g hg => by cases hg) (.inl hw.1)
      rw [List.append_nil] at hsp
      refine ⟨_, _, (dg_name 9 nd), ?_⟩
      walk_at "env"
      refine ws_cons (ws_if (td_not (td_truth (ed_call G_law_refused (hr.mono (by decide)) (by rfl) (ad_cons (ED.eq (d' := D.lst ((F.take a9 ++ [((w, .lay "via") : Df)] ++ F.drop a9).map Df.e)) (ed_lst (eo_cat (ed_lst (eo_cat (ED.eq (ed_lst (eo_slice (ed_var 1 rfl) no_part (some_part (ed_var 7 rfl)))) (show _ = D.lst (((F.take a9)).map Df.e) from by rw [cutT2 _ (by omega), Int.toNat_natCast, List.map_take])) (ED.eq (d' := D.lst (([(w, .lay "via")] : List Df).map Df.e)) (ed_lst (eo_lst (ad_cons (ed_tup (ad_cons (ed_var 9 rfl) (ad_cons (ed_tup (ad_cons ed_str (ad_cons ed_str ad_nil))) ad_nil))) ad_nil))) rfl) (by simp only [List.length_map, List.length_append, List.length_take, List.length_drop, List.length_cons, List.length_nil]; rw [sizeLine_eq]; omega))) (ED.eq (ed_lst (eo_slice (ed_var 1 rfl) (some_part (ed_var 7 rfl)) no_part)) (show _ = D.lst (((F.drop a9)).map Df.e) from by rw [cutT1 _ (by omega), Int.toNat_natCast, List.map_drop])) (by simp only [List.length_map, List.length_append, List.length_take, List.length_drop, List.length_cons, List.length_nil]; rw [sizeLine_eq]; omega))) (by simp only [List.map_append])) (ad_cons (ed_var 3 rfl) ad_nil)) (.mk _ Q hsp.1 hsp.2)) rfl)) (fun hc5 => ?_) (fun hc5 => ?_))
      · skip
        exfalso; simp at hc5
      · skip
        clear hc5
        refine ws_nil ?_
        refine ws_nil ?_
        exact ⟨rfl, True.intro⟩
    · intro u0 hP0
      walk_at "env"
      refine ws_cons (ws_forU (bxs (dr (cellAt ns 2) 4 3) "zzq") (Ex.e) rfl (id_list (ED.eq (ed_call G_law_bad_expressions (hr.mono (by decide)) (by rfl) (ad_cons (ed_ix (ed_var 6 rfl) ed_int (by walk_at "ix")) (ad_cons ed_str ad_nil)) (by exact .mk _ _ hd3.1)) (show _ = (D.lst ((bxs (dr (cellAt ns 2) 4 3) "zzq").map Ex.e)) from by rfl))) (by rfl) (U := Sl) (fun i u => [(10, u)]) (fun r => (r.getD 10 .no)) (fun _ => True) (rfl) (True.intro) ?_ ?_)
      · intro i1 x u1 hx1 hP1
        have hbx := bxs_bad (L := lyN (F.take a9)) (nm := "zzq") hd3.1 (hno _ (by decide +kernel) (by decide +kernel) _) (hno _ (by decide +kernel) (by decide +kernel) _) (hno _ (by decide +kernel) (by decide +kernel) _) (hno _ (by decide +kernel) (by decide +kernel) _) x (List.mem_of_getElem? hx1)
        have hsp := spoilt ok (by omega) ha9l (f := ("zzq", x)) (show ("zzq" : Str).length ≤ 1000 by decide +kernel) (T := [("later", .lay "via")]) (by decide) (fun g hg => by rw [List.mem_singleton] at hg; subst hg; exact (by decide +kernel : ("later" : Str).length ≤ 1000)) (.inr hbx)
        refine ⟨_, _, (dg_name 10 nd), ?_⟩
        walk_at "env"
        refine ws_cons (ws_if (td_not (td_truth (ed_call G_law_refused (hr.mono (by decide)) (by rfl) (ad_cons (ED.eq (d' := D.lst ((F.take a9 ++ [(("zzq", x) : Df)] ++ F.drop a9 ++ [(("later", .lay "via") : Df)]).map Df.e)) (ed_lst (eo_cat (ed_lst (eo_cat (ed_lst (eo_cat (ED.eq (ed_lst (eo_slice (ed_var 1 rfl) no_part (some_part (ed_var 7 rfl)))) (show _ = D.lst (((F.take a9)).map Df.e) from by rw [cutT2 _ (by omega), Int.toNat_natCast, List.map_take])) (ED.eq (d' := D.lst (([("zzq", x)] : List Df).map Df.e)) (ed_lst (eo_lst (ad_cons (ed_tup (ad_cons ed_str (ad_cons (ed_var 10 rfl) ad_nil))) ad_nil))) rfl) (by simp only [List.length_map, List.length_append, List.length_take, List.length_drop, List.length_cons, List.length_nil]; rw [sizeLine_eq]; omega))) (ED.eq (ed_lst (eo_slice (ed_var 1 rfl) (some_part (ed_var 7 rfl)) no_part)) (show _ = D.lst (((F.drop a9)).map Df.e) from by rw [cutT1 _ (by omega), Int.toNat_natCast, List.map_drop])) (by simp only [List.length_map, List.length_append, List.length_take, List.length_drop, List.length_cons, List.length_nil]; rw [sizeLine_eq]; omega))) (ED.eq (d' := D.lst (([("later", .lay "via")] : List Df).map Df.e)) (ed_lst (eo_lst (ad_cons (ed_tup (ad_cons ed_str (ad_cons (ed_tup (ad_cons ed_str (ad_cons ed_str ad_nil))) ad_nil))) ad_nil))) rfl) (by simp only [List.length_map, List.length_append, List.length_take, List.length_drop, List.length_cons, List.length_nil]; rw [sizeLine_eq]; omega))) (by simp only [List.map_append])) (ad_cons (ed_var 3 rfl) ad_nil)) (.mk _ Q hsp.1 hsp.2)) rfl)) (fun hc6 => ?_) (fun hc6 => ?_))
        · skip
          exfalso; simp at hc6
        · skip
          clear hc6
          refine ws_nil ?_
          refine ws_nil ?_
          exact ⟨rfl, True.intro⟩
      · intro u1 hP1
        walk_at "env"
        refine ws_cons (ws_set 7 nd (ED.eq (ed_bin (ed_ix (ed_var 6 rfl) ed_int (by walk_at "ix")) (ed_bin (ED.eq (ed_callB (id := "len") (by rfl) B.«len» bb_len (ad_cons (ed_var 3 rfl) ad_nil) (by walk_at "bc")) (show _ = (D.int (Q.length : Int)) from by rw [List.length_map])) ed_int (by walk_at "b2")) (by walk_at "b2")) (show _ = (D.int (b9 : Int)) from by rw [hb9])) ?_)
        walk_at "env"
        refine ws_cons (ws_forU (brs (dr (cellAt ns 2) 4 3)) (ruX) rfl (id_list (ed_call G_law_bad_rules (hr.mono (by decide)) (by rfl) (ad_cons (ed_ix (ed_var 6 rfl) ed_int (by walk_at "ix")) ad_nil) (by exact .mk _ hd3.1))) (by rfl) (U := Sl) (fun i u => [(10, u)]) (fun r => (r.getD 10 .no)) (fun _ => True) (rfl) (True.intro) ?_ ?_)
        · intro i2 r u2 hx2 hP2
          have hbr := brs_bad (L := lyN F) hd3.1 (hnoF _ (by decide +kernel) (by decide +kernel)) (hnoF _ (by decide +kernel) (by decide +kernel)) r (List.mem_of_getElem? hx2)
          have hsp := spoiltR ok (by omega) (a := b9) (r := r) hbr.1 hbr.2
          refine ⟨_, _, (dg_name 10 nd), ?_⟩
          walk_at "env"
          refine ws_cons (ws_if (td_not (td_truth (ed_call G_law_refused (hr.mono (by decide)) (by rfl) (ad_cons (ed_var 1 rfl) (ad_cons (ED.eq (d' := D.lst ((Q.take b9 ++ [r] ++ Q.drop b9).map ruX)) (ed_lst (eo_cat (ed_lst (eo_cat (ED.eq (ed_lst (eo_slice (ed_var 3 rfl) no_part (some_part (ed_var 7 rfl)))) (show _ = D.lst (((Q.take b9)).map ruX) from by rw [cutT2 _ (by omega), Int.toNat_natCast, List.map_take])) (ED.eq (d' := D.lst (([r] : List RuX).map ruX)) (ed_lst (eo_lst (ad_cons (ed_var 10 rfl) ad_nil))) rfl) (by simp only [List.length_map, List.length_append, List.length_take, List.length_drop, List.length_cons, List.length_nil]; rw [sizeLine_eq]; omega))) (ED.eq (ed_lst (eo_slice (ed_var 3 rfl) (some_part (ed_var 7 rfl)) no_part)) (show _ = D.lst (((Q.drop b9)).map ruX) from by rw [cutT1 _ (by omega), Int.toNat_natCast, List.map_drop])) (by simp only [List.length_map, List.length_append, List.length_take, List.length_drop, List.length_cons, List.length_nil]; rw [sizeLine_eq]; omega))) (by simp only [List.map_append])) ad_nil)) (.mk F _ hsp.1 hsp.2)) rfl)) (fun hc7 => ?_) (fun hc7 => ?_))
          · skip
            exfalso; simp at hc7
          · skip
            clear hc7
            refine ws_nil ?_
            refine ws_nil ?_
            exact ⟨rfl, True.intro⟩
        · intro u2 hP2
          walk_at "env"
          refine ws_cons (ws_setMap2 11 [("k", 12)] (List.range 41) (fun (i : Nat) => D.int (i : Int)) (fun (k : Nat) => ((mStr k, tow (k % 12)) : Df)) (Df.e) rfl nd (blkOk_by (N := ["script", "definitions", "names", "rules", "handed", "deck", "draws", "at", "words", "word", "bad", "many", "k", "row"]) (sc := defScope s_law) (by decide +kernel)) (id_range1 (by rfl) B.«range» ed_int (by walk_at "side")) (rngD0 _) (fun k hxm => by have hk9 := List.mem_range.mp hxm; exact ⟨_, by rfl, fun _ _ _ _ _ => ⟨(dg_name 12 nd), tds_nil, (ed_tup (ad_cons (ED.eq (ed_bin ed_str (ed_callT (T := "str") (by rfl) B.«str» bb_str (ad_cons (ed_var 12 rfl) ad_nil) (bc_strI (log_small hk9 (by omega)))) (b2_addS (m1_len (by omega)))) (show _ = D.str (mStr k) from rfl)) (ad_cons (ED.eq (ed_call G_law_tower (hr.mono (by decide)) (by rfl) (ad_cons (ed_bin ed_int (ed_bin (ed_var 12 rfl) ed_int (by walk_at "b2")) (by walk_at "b2")) ad_nil) (by exact .mk _ (by omega))) (show _ = ((tow (k % 12)).e) from by rw [show (1 + (k : Int) % 12 - 1).toNat = k % 12 by omega])) ad_nil)))⟩⟩) (by rw [List.length_range, sizeLine_eq]; decide) ?_)
          refine ws_share 11 rfl ?_
          walk_at "env"
          refine ws_cons (ws_forU (List.range (12)) (fun (i : Nat) => D.int (i : Int)) rfl (id_range1 (by rfl) B.«range» ed_int (by walk_at "side")) (by exact rngD0 _) (U := Sl) (fun i u => [(12, u)]) (fun r => (r.getD 12 .no)) (fun _ => True) (rfl) (True.intro) ?_ ?_)
          · intro i3 t u3 hx3 hP3
            obtain rfl : i3 = t := by
              obtain ⟨hl, he⟩ := List.getElem?_eq_some_iff.mp hx3
              rw [List.getElem_range] at he; exact he
            have hi3 : i3 < 12 := by have := (List.getElem?_eq_some_iff.mp hx3).1; rwa [List.length_range] at this
            refine ⟨_, _, (dg_name 12 nd), ?_⟩
            walk_at "env"
            refine ws_cons (ws_if (td_not (td_truth (ed_call G_law_is_number (hr.mono (by decide)) (by rfl) (ad_cons (ed_call G_expression_depth (hr.mono (by decide)) (by rfl) (ad_cons (ED.eq (ed_call G_law_tower (hr.mono (by decide)) (by rfl) (ad_cons (ed_bin (ed_var 12 rfl) ed_int (by walk_at "b2")) ad_nil) (by exact .mk _ (by omega))) (show _ = ((tow i3).e) from by rw [show ((i3 : Int) + 1 - 1).toNat = i3 by omega])) ad_nil) (by exact .mk i3 (by omega))) (ad_cons (ed_bin (ed_var 12 rfl) ed_int (by walk_at "b2")) ad_nil)) (by exact .mk _ _)) rfl)) (fun hc9 => ?_) (fun hc9 => ?_))
            · skip
              exfalso; simp at hc9
            · skip
              clear hc9
              refine ws_nil ?_
              refine ws_nil ?_
              exact ⟨rfl, True.intro⟩
          · intro u3 hP3
            walk_at "env"
            refine ws_cons (ws_if (td_cmp (ed_callB (id := "len") (by rfl) B.«len» bb_len (ad_cons (ed_fld 1 KL.«Deck» (ed_own (eo_make G_Deck_init (hr.mono (by decide)) (by rfl) (ad_cons (ED.eq (d' := .lst ((mny 40).map Df.e)) (ed_lst (eo_slice (ED.eq (d' := .lst ((mny 41).map Df.e)) (ed_var 11 rfl) rfl) no_part (some_part ed_int))) (by rw [cutT2 _ (by decide), ← List.map_take, show (40 : Int).toNat = 40 from rfl, mny_take (by decide)])) (ad_cons (ED.eq (ed_lst (eo_rep (ds := [ruX apR]) (n := (40 : Int)) (EO.eq (eo_lst (ad_cons (ed_tup (ad_cons ed_str (ad_cons ed_str (ad_cons ed_str (ad_cons ed_int ad_nil))))) ad_nil)) (show _ = OC.lst [ruX apR] from rfl)) ed_int (by decide) (by decide) (by simp only [List.length_cons, List.length_nil]; rw [sizeLine_eq]; decide))) (show _ = D.lst ((List.replicate 40 apR).map ruX) from congrArg D.lst (rep_flat ruX apR 40))) ad_nil)) (by exact .mk (mny 40) (List.replicate 40 apR) mny_ok)))) ad_nil) (by walk_at "bc")) ed_int (by walk_at "c2")) (fun hc10 => ?_) (fun hc10 => ?_))
            · skip
              exfalso; simp at hc10
            · skip
              clear hc10
              refine ws_nil ?_
              refine ws_cons (ws_ret (ED.eq (ed_and (ed_call G_law_refused (hr.mono (by decide)) (by rfl) (ad_cons (ED.eq (d' := .lst ((mny 41).map Df.e)) (ed_var 11 rfl) rfl) (ad_cons (ED.eq (d' := .lst (([] : List RuX).map ruX)) (ed_lst (eo_lst ad_nil)) rfl) ad_nil)) (.mk (mny 41) [] mny_bad.1 mny_bad.2)) (fun hb11 => (ed_one (ed_call G_law_refused (hr.mono (by decide)) (by rfl) (ad_cons (ED.eq (d' := .lst (([] : List Df).map Df.e)) (ed_lst (eo_lst ad_nil)) rfl) (ad_cons (ED.eq (ed_lst (eo_rep (ds := [ruX wiR]) (n := (41 : Int)) (EO.eq (eo_lst (ad_cons (ed_tup (ad_cons ed_str (ad_cons ed_str (ad_cons ed_int ad_nil)))) ad_nil)) (show _ = OC.lst [ruX wiR] from rfl)) ed_int (by decide) (by decide) (by simp only [List.length_cons, List.length_nil]; rw [sizeLine_eq]; decide))) (show _ = D.lst ((List.replicate 41 wiR).map ruX) from congrArg D.lst (rep_flat ruX wiR 41))) ad_nil)) (.mk [] (List.replicate 41 wiR) wi_bad.1 wi_bad.2))))) ?_) (Or.inl rfl))
              rfl
end
theorem all_mk {l : PySem.W.OpenLaw} {w : World} {K : PySem.W.Frag} {h : Heap} {mg : Str → Option Value} {fa : Addr} (X : K.In h) (G : h.Ns mainGlobals mg) (hfa : mg "law" = some (.ref fa))
    {C_Deck : Addr} (aC_Deck : PySem.W.nsIn K mainGlobals "Deck" = some (some (.ref C_Deck)))
    (pg_Deck : PySem.W.plainGet K C_Deck Str.empty = true) (hd_Deck : PySem.W.hasDictIn K C_Deck = true) (po_Deck : PySem.W.plainOver K C_Deck = true) (sa_Deck : PySem.W.findIn K (.ref C_Deck) "__setattr__" = some (some (.builtin "object.__setattr__"))) (ha_Deck : PySem.W.findIn K (.ref C_Deck) "__class__" = some (some (.builtin "object.__class__"))) (hn_Deck : PySem.W.specialIn K (.builtin "object.__class__") "__get__" = some (some (.builtin "getset_descriptor.__get__"))) (htk_Deck : PySem.W.takesIn K (.builtin "object.__class__") = some true) (hm_Deck : PySem.W.mroIn K C_Deck (.type "object") = some true) (kc_Deck : PySem.W.keepIn K (.ref C_Deck) = true) (mk_Deck : PySem.W.makesIn K C_Deck = true)
    (na0_Deck : PySem.W.findIn K (.ref C_Deck) "definitions" = some none)
    (na1_Deck : PySem.W.findIn K (.ref C_Deck) "rules" = some none)
    {f0 : Addr} {od0 an0 : Option Addr} {sl0 : Array (Option Value)} {oc0 kV0 dc0 pm0 cd0 ct0 : Value} (a0 : PySem.W.nsIn K mainGlobals "is_name" = some (some (.ref f0))) (l0 : K.lookup f0 = some ⟨oc0, od0, .func (PySem.W.fnOf "is_name" "is_name" (defArgs s_is_name) (defBody s_is_name) (defScope s_is_name) .none kV0 dc0 pm0 an0 cd0 ct0), sl0⟩) (c0 : PySem.W.codeIn K cd0 "is_name" = true) (k0 : PySem.W.keepIn K (.ref f0) = true)
    {f1 : Addr} {od1 an1 : Option Addr} {sl1 : Array (Option Value)} {oc1 kV1 dc1 pm1 cd1 ct1 : Value} (a1 : PySem.W.nsIn K mainGlobals "rule_layers" = some (some (.ref f1))) (l1 : K.lookup f1 = some ⟨oc1, od1, .func (PySem.W.fnOf "rule_layers" "rule_layers" (defArgs s_rule_layers) (defBody s_rule_layers) (defScope s_rule_layers) .none kV1 dc1 pm1 an1 cd1 ct1), sl1⟩) (c1 : PySem.W.codeIn K cd1 "rule_layers" = true) (k1 : PySem.W.keepIn K (.ref f1) = true)
    {f2 : Addr} {od2 an2 : Option Addr} {sl2 : Array (Option Value)} {oc2 kV2 dc2 pm2 cd2 ct2 : Value} (a2 : PySem.W.nsIn K mainGlobals "rule_numbers" = some (some (.ref f2))) (l2 : K.lookup f2 = some ⟨oc2, od2, .func (PySem.W.fnOf "rule_numbers" "rule_numbers" (defArgs s_rule_numbers) (defBody s_rule_numbers) (defScope s_rule_numbers) .none kV2 dc2 pm2 an2 cd2 ct2), sl2⟩) (c2 : PySem.W.codeIn K cd2 "rule_numbers" = true) (k2 : PySem.W.keepIn K (.ref f2) = true)
    {f3 : Addr} {od3 an3 : Option Addr} {sl3 : Array (Option Value)} {oc3 kV3 dc3 pm3 cd3 ct3 : Value} (a3 : PySem.W.nsIn K mainGlobals "is_rule_over" = some (some (.ref f3))) (l3 : K.lookup f3 = some ⟨oc3, od3, .func (PySem.W.fnOf "is_rule_over" "is_rule_over" (defArgs s_is_rule_over) (defBody s_is_rule_over) (defScope s_is_rule_over) .none kV3 dc3 pm3 an3 cd3 ct3), sl3⟩) (c3 : PySem.W.codeIn K cd3 "is_rule_over" = true) (k3 : PySem.W.keepIn K (.ref f3) = true)
    {f4 : Addr} {od4 an4 : Option Addr} {sl4 : Array (Option Value)} {oc4 kV4 dc4 pm4 cd4 ct4 : Value} (a4 : PySem.W.nsIn K mainGlobals "parts_of" = some (some (.ref f4))) (l4 : K.lookup f4 = some ⟨oc4, od4, .func (PySem.W.fnOf "parts_of" "parts_of" (defArgs s_parts_of) (defBody s_parts_of) (defScope s_parts_of) .none kV4 dc4 pm4 an4 cd4 ct4), sl4⟩) (c4 : PySem.W.codeIn K cd4 "parts_of" = true) (k4 : PySem.W.keepIn K (.ref f4) = true)
    {f5 : Addr} {od5 an5 : Option Addr} {sl5 : Array (Option Value)} {oc5 kV5 dc5 pm5 cd5 ct5 : Value} (a5 : PySem.W.nsIn K mainGlobals "inner_parts" = some (some (.ref f5))) (l5 : K.lookup f5 = some ⟨oc5, od5, .func (PySem.W.fnOf "inner_parts" "inner_parts" (defArgs s_inner_parts) (defBody s_inner_parts) (defScope s_inner_parts) .none kV5 dc5 pm5 an5 cd5 ct5), sl5⟩) (c5 : PySem.W.codeIn K cd5 "inner_parts" = true) (k5 : PySem.W.keepIn K (.ref f5) = true)
    {f6 : Addr} {od6 an6 : Option Addr} {sl6 : Array (Option Value)} {oc6 kV6 dc6 pm6 cd6 ct6 : Value} (a6 : PySem.W.nsIn K mainGlobals "expression_depth" = some (some (.ref f6))) (l6 : K.lookup f6 = some ⟨oc6, od6, .func (PySem.W.fnOf "expression_depth" "expression_depth" (defArgs s_expression_depth) (defBody s_expression_depth) (defScope s_expression_depth) .none kV6 dc6 pm6 an6 cd6 ct6), sl6⟩) (c6 : PySem.W.codeIn K cd6 "expression_depth" = true) (k6 : PySem.W.keepIn K (.ref f6) = true)
    {f7 : Addr} {od7 an7 : Option Addr} {sl7 : Array (Option Value)} {oc7 kV7 dc7 pm7 cd7 ct7 : Value} (a7 : PySem.W.nsIn K mainGlobals "is_size" = some (some (.ref f7))) (l7 : K.lookup f7 = some ⟨oc7, od7, .func (PySem.W.fnOf "is_size" "is_size" (defArgs s_is_size) (defBody s_is_size) (defScope s_is_size) .none kV7 dc7 pm7 an7 cd7 ct7), sl7⟩) (c7 : PySem.W.codeIn K cd7 "is_size" = true) (k7 : PySem.W.keepIn K (.ref f7) = true)
    {f8 : Addr} {od8 an8 : Option Addr} {sl8 : Array (Option Value)} {oc8 kV8 dc8 pm8 cd8 ct8 : Value} (a8 : PySem.W.nsIn K mainGlobals "is_expression_over" = some (some (.ref f8))) (l8 : K.lookup f8 = some ⟨oc8, od8, .func (PySem.W.fnOf "is_expression_over" "is_expression_over" (defArgs s_is_expression_over_z0) (defBody s_is_expression_over_z0) (defScope s_is_expression_over_z0) .none kV8 dc8 pm8 an8 cd8 ct8), sl8⟩) (c8 : PySem.W.codeIn K cd8 "is_expression_over" = true) (k8 : PySem.W.keepIn K (.ref f8) = true)
    {f9 : Addr} {od9 an9 : Option Addr} {sl9 : Array (Option Value)} {oc9 kV9 dc9 pm9 cd9 ct9 : Value} (a9 : PySem.W.nsIn K mainGlobals "is_new_layer" = some (some (.ref f9))) (l9 : K.lookup f9 = some ⟨oc9, od9, .func (PySem.W.fnOf "is_new_layer" "is_new_layer" (defArgs s_is_new_layer) (defBody s_is_new_layer) (defScope s_is_new_layer) .none kV9 dc9 pm9 an9 cd9 ct9), sl9⟩) (c9 : PySem.W.codeIn K cd9 "is_new_layer" = true) (k9 : PySem.W.keepIn K (.ref f9) = true)
    {f10 : Addr} {od10 an10 : Option Addr} {sl10 : Array (Option Value)} {oc10 kV10 dc10 pm10 cd10 ct10 : Value} (a10 : PySem.W.findIn K (.ref C_Deck) "__init__" = some (some (.ref f10))) (i10 : PySem.W.isFn K (.ref f10) = true) (l10 : K.lookup f10 = some ⟨oc10, od10, .func (PySem.W.fnOf "__init__" "Deck.__init__" (defArgs s_Deck_init) (defBody s_Deck_init) (defScope s_Deck_init) .none kV10 dc10 pm10 an10 cd10 ct10), sl10⟩) (c10 : PySem.W.codeIn K cd10 "Deck.__init__" = true) (k10 : PySem.W.keepIn K (.ref f10) = true)
    {f11 : Addr} {od11 an11 : Option Addr} {sl11 : Array (Option Value)} {oc11 kV11 dc11 pm11 cd11 ct11 : Value} (a11 : PySem.W.nsIn K mainGlobals "_law_cell" = some (some (.ref f11))) (l11 : K.lookup f11 = some ⟨oc11, od11, .func (PySem.W.fnOf "_law_cell" "_law_cell" (defArgs s_law_cell) (defBody s_law_cell) (defScope s_law_cell) .none kV11 dc11 pm11 an11 cd11 ct11), sl11⟩) (c11 : PySem.W.codeIn K cd11 "_law_cell" = true) (k11 : PySem.W.keepIn K (.ref f11) = true)
    {f12 : Addr} {od12 an12 : Option Addr} {sl12 : Array (Option Value)} {oc12 kV12 dc12 pm12 cd12 ct12 : Value} (a12 : PySem.W.nsIn K mainGlobals "_law_draws" = some (some (.ref f12))) (l12 : K.lookup f12 = some ⟨oc12, od12, .func (PySem.W.fnOf "_law_draws" "_law_draws" (defArgs s_law_draws) (defBody s_law_draws) (defScope s_law_draws) .none kV12 dc12 pm12 an12 cd12 ct12), sl12⟩) (c12 : PySem.W.codeIn K cd12 "_law_draws" = true) (k12 : PySem.W.keepIn K (.ref f12) = true)
    {f13 : Addr} {od13 an13 : Option Addr} {sl13 : Array (Option Value)} {oc13 kV13 dc13 pm13 cd13 ct13 : Value} (a13 : PySem.W.nsIn K mainGlobals "_law_is_int" = some (some (.ref f13))) (l13 : K.lookup f13 = some ⟨oc13, od13, .func (PySem.W.fnOf "_law_is_int" "_law_is_int" (defArgs s_law_is_int) (defBody s_law_is_int) (defScope s_law_is_int) .none kV13 dc13 pm13 an13 cd13 ct13), sl13⟩) (c13 : PySem.W.codeIn K cd13 "_law_is_int" = true) (k13 : PySem.W.keepIn K (.ref f13) = true)
    {f14 : Addr} {od14 an14 : Option Addr} {sl14 : Array (Option Value)} {oc14 kV14 dc14 pm14 cd14 ct14 : Value} (a14 : PySem.W.nsIn K mainGlobals "_law_is_number" = some (some (.ref f14))) (l14 : K.lookup f14 = some ⟨oc14, od14, .func (PySem.W.fnOf "_law_is_number" "_law_is_number" (defArgs s_law_is_number) (defBody s_law_is_number) (defScope s_law_is_number) .none kV14 dc14 pm14 an14 cd14 ct14), sl14⟩) (c14 : PySem.W.codeIn K cd14 "_law_is_number" = true) (k14 : PySem.W.keepIn K (.ref f14) = true)
    {f15 : Addr} {od15 an15 : Option Addr} {sl15 : Array (Option Value)} {oc15 kV15 dc15 pm15 cd15 ct15 : Value} (a15 : PySem.W.nsIn K mainGlobals "_law_layers" = some (some (.ref f15))) (l15 : K.lookup f15 = some ⟨oc15, od15, .func (PySem.W.fnOf "_law_layers" "_law_layers" (defArgs s_law_layers) (defBody s_law_layers) (defScope s_law_layers) .none kV15 dc15 pm15 an15 cd15 ct15), sl15⟩) (c15 : PySem.W.codeIn K cd15 "_law_layers" = true) (k15 : PySem.W.keepIn K (.ref f15) = true)
    {f16 : Addr} {od16 an16 : Option Addr} {sl16 : Array (Option Value)} {oc16 kV16 dc16 pm16 cd16 ct16 : Value} (a16 : PySem.W.nsIn K mainGlobals "_law_name" = some (some (.ref f16))) (l16 : K.lookup f16 = some ⟨oc16, od16, .func (PySem.W.fnOf "_law_name" "_law_name" (defArgs s_law_name) (defBody s_law_name) (defScope s_law_name) .none kV16 dc16 pm16 an16 cd16 ct16), sl16⟩) (c16 : PySem.W.codeIn K cd16 "_law_name" = true) (k16 : PySem.W.keepIn K (.ref f16) = true)
    {f17 : Addr} {od17 an17 : Option Addr} {sl17 : Array (Option Value)} {oc17 kV17 dc17 pm17 cd17 ct17 : Value} (a17 : PySem.W.nsIn K mainGlobals "_law_like" = some (some (.ref f17))) (l17 : K.lookup f17 = some ⟨oc17, od17, .func (PySem.W.fnOf "_law_like" "_law_like" (defArgs s_law_like_int) (defBody s_law_like_int) (defScope s_law_like_int) .none kV17 dc17 pm17 an17 cd17 ct17), sl17⟩) (c17 : PySem.W.codeIn K cd17 "_law_like" = true) (k17 : PySem.W.keepIn K (.ref f17) = true)
    {f18 : Addr} {od18 an18 : Option Addr} {sl18 : Array (Option Value)} {oc18 kV18 dc18 pm18 cd18 ct18 : Value} (a18 : PySem.W.nsIn K mainGlobals "_law_qbad_name" = some (some (.ref f18))) (l18 : K.lookup f18 = some ⟨oc18, od18, .func (PySem.W.fnOf "_law_qbad_name" "_law_qbad_name" (defArgs s_law_qbad_name) (defBody s_law_qbad_name) (defScope s_law_qbad_name) .none kV18 dc18 pm18 an18 cd18 ct18), sl18⟩) (c18 : PySem.W.codeIn K cd18 "_law_qbad_name" = true) (k18 : PySem.W.keepIn K (.ref f18) = true)
    {f19 : Addr} {od19 an19 : Option Addr} {sl19 : Array (Option Value)} {oc19 kV19 dc19 pm19 cd19 ct19 : Value} (a19 : PySem.W.nsIn K mainGlobals "_law_qexpression" = some (some (.ref f19))) (l19 : K.lookup f19 = some ⟨oc19, od19, .func (PySem.W.fnOf "_law_qexpression" "_law_qexpression" (defArgs s_law_qexpression_d0) (defBody s_law_qexpression_d0) (defScope s_law_qexpression_d0) .none kV19 dc19 pm19 an19 cd19 ct19), sl19⟩) (c19 : PySem.W.codeIn K cd19 "_law_qexpression" = true) (k19 : PySem.W.keepIn K (.ref f19) = true)
    {f20 : Addr} {od20 an20 : Option Addr} {sl20 : Array (Option Value)} {oc20 kV20 dc20 pm20 cd20 ct20 : Value} (a20 : PySem.W.nsIn K mainGlobals "_law_qdefinitions" = some (some (.ref f20))) (l20 : K.lookup f20 = some ⟨oc20, od20, .func (PySem.W.fnOf "_law_qdefinitions" "_law_qdefinitions" (defArgs s_law_qdefinitions) (defBody s_law_qdefinitions) (defScope s_law_qdefinitions) .none kV20 dc20 pm20 an20 cd20 ct20), sl20⟩) (c20 : PySem.W.codeIn K cd20 "_law_qdefinitions" = true) (k20 : PySem.W.keepIn K (.ref f20) = true)
    {f21 : Addr} {od21 an21 : Option Addr} {sl21 : Array (Option Value)} {oc21 kV21 dc21 pm21 cd21 ct21 : Value} (a21 : PySem.W.nsIn K mainGlobals "_law_qrule" = some (some (.ref f21))) (l21 : K.lookup f21 = some ⟨oc21, od21, .func (PySem.W.fnOf "_law_qrule" "_law_qrule" (defArgs s_law_qrule) (defBody s_law_qrule) (defScope s_law_qrule) .none kV21 dc21 pm21 an21 cd21 ct21), sl21⟩) (c21 : PySem.W.codeIn K cd21 "_law_qrule" = true) (k21 : PySem.W.keepIn K (.ref f21) = true)
    {f22 : Addr} {od22 an22 : Option Addr} {sl22 : Array (Option Value)} {oc22 kV22 dc22 pm22 cd22 ct22 : Value} (a22 : PySem.W.nsIn K mainGlobals "_law_qrules" = some (some (.ref f22))) (l22 : K.lookup f22 = some ⟨oc22, od22, .func (PySem.W.fnOf "_law_qrules" "_law_qrules" (defArgs s_law_qrules) (defBody s_law_qrules) (defScope s_law_qrules) .none kV22 dc22 pm22 an22 cd22 ct22), sl22⟩) (c22 : PySem.W.codeIn K cd22 "_law_qrules" = true) (k22 : PySem.W.keepIn K (.ref f22) = true)
    {f23 : Addr} {od23 an23 : Option Addr} {sl23 : Array (Option Value)} {oc23 kV23 dc23 pm23 cd23 ct23 : Value} (a23 : PySem.W.nsIn K mainGlobals "_law_refused" = some (some (.ref f23))) (l23 : K.lookup f23 = some ⟨oc23, od23, .func (PySem.W.fnOf "_law_refused" "_law_refused" (defArgs s_law_refused) (defBody s_law_refused) (defScope s_law_refused) .none kV23 dc23 pm23 an23 cd23 ct23), sl23⟩) (c23 : PySem.W.codeIn K cd23 "_law_refused" = true) (k23 : PySem.W.keepIn K (.ref f23) = true)
    {f24 : Addr} {od24 an24 : Option Addr} {sl24 : Array (Option Value)} {oc24 kV24 dc24 pm24 cd24 ct24 : Value} (a24 : PySem.W.nsIn K mainGlobals "_law_tower" = some (some (.ref f24))) (l24 : K.lookup f24 = some ⟨oc24, od24, .func (PySem.W.fnOf "_law_tower" "_law_tower" (defArgs s_law_tower) (defBody s_law_tower) (defScope s_law_tower) .none kV24 dc24 pm24 an24 cd24 ct24), sl24⟩) (c24 : PySem.W.codeIn K cd24 "_law_tower" = true) (k24 : PySem.W.keepIn K (.ref f24) = true)
    {f25 : Addr} {od25 an25 : Option Addr} {sl25 : Array (Option Value)} {oc25 kV25 dc25 pm25 cd25 ct25 : Value} (a25 : PySem.W.nsIn K mainGlobals "_law_bad_expressions" = some (some (.ref f25))) (l25 : K.lookup f25 = some ⟨oc25, od25, .func (PySem.W.fnOf "_law_bad_expressions" "_law_bad_expressions" (defArgs s_law_bad_expressions) (defBody s_law_bad_expressions) (defScope s_law_bad_expressions) .none kV25 dc25 pm25 an25 cd25 ct25), sl25⟩) (c25 : PySem.W.codeIn K cd25 "_law_bad_expressions" = true) (k25 : PySem.W.keepIn K (.ref f25) = true)
    {f26 : Addr} {od26 an26 : Option Addr} {sl26 : Array (Option Value)} {oc26 kV26 dc26 pm26 cd26 ct26 : Value} (a26 : PySem.W.nsIn K mainGlobals "_law_bad_rules" = some (some (.ref f26))) (l26 : K.lookup f26 = some ⟨oc26, od26, .func (PySem.W.fnOf "_law_bad_rules" "_law_bad_rules" (defArgs s_law_bad_rules) (defBody s_law_bad_rules) (defScope s_law_bad_rules) .none kV26 dc26 pm26 an26 cd26 ct26), sl26⟩) (c26 : PySem.W.codeIn K cd26 "_law_bad_rules" = true) (k26 : PySem.W.keepIn K (.ref f26) = true)
    {f27 : Addr} {od27 an27 : Option Addr} {sl27 : Array (Option Value)} {oc27 kV27 dc27 pm27 cd27 ct27 : Value} (a27 : PySem.W.nsIn K mainGlobals "law" = some (some (.ref f27))) (l27 : K.lookup f27 = some ⟨oc27, od27, .func (PySem.W.fnOf "law" "law" (defArgs s_law) (defBody s_law) (defScope s_law) .none kV27 dc27 pm27 an27 cd27 ct27), sl27⟩) (c27 : PySem.W.codeIn K cd27 "law" = true) (k27 : PySem.W.keepIn K (.ref f27) = true)
    (z_all : PySem.W.nsIn K mainGlobals "all" = some none)
    (z_bool : PySem.W.nsIn K mainGlobals "bool" = some none)
    (z_int : PySem.W.nsIn K mainGlobals "int" = some none)
    (z_isinstance : PySem.W.nsIn K mainGlobals "isinstance" = some none)
    (z_len : PySem.W.nsIn K mainGlobals "len" = some none)
    (z_list : PySem.W.nsIn K mainGlobals "list" = some none)
    (z_max : PySem.W.nsIn K mainGlobals "max" = some none)
    (z_range : PySem.W.nsIn K mainGlobals "range" = some none)
    (z_set : PySem.W.nsIn K mainGlobals "set" = some none)
    (z_str : PySem.W.nsIn K mainGlobals "str" = some none)
    (z_tuple : PySem.W.nsIn K mainGlobals "tuple" = some none)
    {u_FROM_ZERO : Value} (y_FROM_ZERO : PySem.W.nsIn K mainGlobals "FROM_ZERO" = some (some u_FROM_ZERO)) (w_FROM_ZERO : KD K (.tup [.str "apart", .str "cover"]) u_FROM_ZERO)
    {u_GREATEST_DEPTH : Value} (y_GREATEST_DEPTH : PySem.W.nsIn K mainGlobals "GREATEST_DEPTH" = some (some u_GREATEST_DEPTH)) (w_GREATEST_DEPTH : KD K (.int 12) u_GREATEST_DEPTH)
    {u_GREATEST_NUMBER : Value} (y_GREATEST_NUMBER : PySem.W.nsIn K mainGlobals "GREATEST_NUMBER" = some (some u_GREATEST_NUMBER)) (w_GREATEST_NUMBER : KD K (.int 1000) u_GREATEST_NUMBER)
    {u_LAYERS : Value} (y_LAYERS : PySem.W.nsIn K mainGlobals "LAYERS" = some (some u_LAYERS)) (w_LAYERS : KD K (.tup [.str "well", .str "active", .str "poly", .str "contact", .str "metal", .str "via", .str "top"]) u_LAYERS)
    {u_MOST_CHARACTERS : Value} (y_MOST_CHARACTERS : PySem.W.nsIn K mainGlobals "MOST_CHARACTERS" = some (some u_MOST_CHARACTERS)) (w_MOST_CHARACTERS : KD K (.int 12) u_MOST_CHARACTERS)
    {u_MOST_DEFINITIONS : Value} (y_MOST_DEFINITIONS : PySem.W.nsIn K mainGlobals "MOST_DEFINITIONS" = some (some u_MOST_DEFINITIONS)) (w_MOST_DEFINITIONS : KD K (.int 40) u_MOST_DEFINITIONS)
    {u_MOST_RULES : Value} (y_MOST_RULES : PySem.W.nsIn K mainGlobals "MOST_RULES" = some (some u_MOST_RULES)) (w_MOST_RULES : KD K (.int 40) u_MOST_RULES)
    {u_PAIRING : Value} (y_PAIRING : PySem.W.nsIn K mainGlobals "PAIRING" = some (some u_PAIRING)) (w_PAIRING : KD K (.tup [.str "and", .str "or", .str "minus", .str "odd"]) u_PAIRING)
    {u_SIZING : Value} (y_SIZING : PySem.W.nsIn K mainGlobals "SIZING" = some (some u_SIZING)) (w_SIZING : KD K (.tup [.str "grow", .str "shrink", .str "open"]) u_SIZING)
    {u_WORDS : Value} (y_WORDS : PySem.W.nsIn K mainGlobals "WORDS" = some (some u_WORDS)) (w_WORDS : KD K (.tup [.str "and", .str "or", .str "minus", .str "odd", .str "grow", .str "shrink", .str "open", .str "layer", .str "rule"]) u_WORDS)
    {p_LAYER_COUNTS : Addr} {es_LAYER_COUNTS : Array DictEntry} {n_LAYER_COUNTS : Nat} (a_LAYER_COUNTS : PySem.W.nsIn K mainGlobals "LAYER_COUNTS" = some (some (.ref p_LAYER_COUNTS))) (l_LAYER_COUNTS : K.lookup p_LAYER_COUNTS = some ⟨.type "dict", none, .dict es_LAYER_COUNTS n_LAYER_COUNTS, #[]⟩) (q_LAYER_COUNTS : PySem.W.KeysLit w.params es_LAYER_COUNTS.toList)
    {u0_LAYER_COUNTS : Value} (v0_LAYER_COUNTS : PySem.W.nsIn K p_LAYER_COUNTS "width" = some (some u0_LAYER_COUNTS)) (d0_LAYER_COUNTS : KD K (.int 1) u0_LAYER_COUNTS)
    {u1_LAYER_COUNTS : Value} (v1_LAYER_COUNTS : PySem.W.nsIn K p_LAYER_COUNTS "space" = some (some u1_LAYER_COUNTS)) (d1_LAYER_COUNTS : KD K (.int 1) u1_LAYER_COUNTS)
    {u2_LAYER_COUNTS : Value} (v2_LAYER_COUNTS : PySem.W.nsIn K p_LAYER_COUNTS "apart" = some (some u2_LAYER_COUNTS)) (d2_LAYER_COUNTS : KD K (.int 2) u2_LAYER_COUNTS)
    {u3_LAYER_COUNTS : Value} (v3_LAYER_COUNTS : PySem.W.nsIn K p_LAYER_COUNTS "cover" = some (some u3_LAYER_COUNTS)) (d3_LAYER_COUNTS : KD K (.int 2) u3_LAYER_COUNTS)
    {u4_LAYER_COUNTS : Value} (v4_LAYER_COUNTS : PySem.W.nsIn K p_LAYER_COUNTS "area" = some (some u4_LAYER_COUNTS)) (d4_LAYER_COUNTS : KD K (.int 1) u4_LAYER_COUNTS)
    {u5_LAYER_COUNTS : Value} (v5_LAYER_COUNTS : PySem.W.nsIn K p_LAYER_COUNTS "size" = some (some u5_LAYER_COUNTS)) (d5_LAYER_COUNTS : KD K (.int 1) u5_LAYER_COUNTS)
    {u6_LAYER_COUNTS : Value} (v6_LAYER_COUNTS : PySem.W.nsIn K p_LAYER_COUNTS "never" = some (some u6_LAYER_COUNTS)) (d6_LAYER_COUNTS : KD K (.int 2) u6_LAYER_COUNTS)
    {E_InvalidDeck : Addr} (ea_InvalidDeck : PySem.W.nsIn K mainGlobals "InvalidDeck" = some (some (.ref E_InvalidDeck)))
    (es_InvalidDeck : PySem.W.subIn K (.ref E_InvalidDeck) (.type "BaseException") = some true)
    (ed_InvalidDeck : PySem.W.hasDictIn K E_InvalidDeck = true)
    (et_InvalidDeck : PySem.W.typeIn K (.ref E_InvalidDeck) = some (.type "type"))
    (eq_InvalidDeck : PySem.W.excIn K E_InvalidDeck [.type "ValueError", .type "Exception", .type "BaseException", .type "object"] "ValueError.__new__" = true)
    (ek_InvalidDeck : PySem.W.keepIn K (.ref E_InvalidDeck) = true)
    (eg_InvalidDeck : PySem.W.findIn K (.ref E_InvalidDeck) "__getattribute__" = some (some (.builtin "BaseException.__getattribute__")))
    (en_InvalidDeck : PySem.W.findIn K (.ref E_InvalidDeck) "__getattr__" = some none)
    (ec_InvalidDeck : PySem.W.findIn K (.ref E_InvalidDeck) "__class__" = some (some (.builtin "object.__class__")))
    (ep_InvalidDeck : PySem.W.specialIn K (.builtin "object.__class__") "__get__" = some (some (.builtin "getset_descriptor.__get__")))
    (ex_InvalidDeck : PySem.W.takesIn K (.builtin "object.__class__") = some true)
    (em_InvalidDeck : PySem.W.mroIn K E_InvalidDeck (.type "object") = some true)
    {E_ReticleError : Addr} (ea_ReticleError : PySem.W.nsIn K mainGlobals "ReticleError" = some (some (.ref E_ReticleError)))
    (es_ReticleError : PySem.W.subIn K (.ref E_ReticleError) (.type "BaseException") = some true)
    (ed_ReticleError : PySem.W.hasDictIn K E_ReticleError = true)
    (et_ReticleError : PySem.W.typeIn K (.ref E_ReticleError) = some (.type "type"))
    (e4_m1 : PySem.W.subIn K (.ref E_InvalidDeck) (.ref E_ReticleError) = some true)
    {E_InvalidRule : Addr} (ea_InvalidRule : PySem.W.nsIn K mainGlobals "InvalidRule" = some (some (.ref E_InvalidRule)))
    (es_InvalidRule : PySem.W.subIn K (.ref E_InvalidRule) (.type "BaseException") = some true)
    (ed_InvalidRule : PySem.W.hasDictIn K E_InvalidRule = true)
    (et_InvalidRule : PySem.W.typeIn K (.ref E_InvalidRule) = some (.type "type"))
    (e4_i2 : PySem.W.subIn K (.ref E_InvalidDeck) (.ref E_InvalidRule) = some false)
    (e5_i2 : (Value.ref E_InvalidDeck == Value.ref E_InvalidRule) = false)
    {E_InvalidText : Addr} (ea_InvalidText : PySem.W.nsIn K mainGlobals "InvalidText" = some (some (.ref E_InvalidText)))
    (es_InvalidText : PySem.W.subIn K (.ref E_InvalidText) (.type "BaseException") = some true)
    (ed_InvalidText : PySem.W.hasDictIn K E_InvalidText = true)
    (et_InvalidText : PySem.W.typeIn K (.ref E_InvalidText) = some (.type "type"))
    (e4_i3 : PySem.W.subIn K (.ref E_InvalidDeck) (.ref E_InvalidText) = some false)
    (e5_i3 : (Value.ref E_InvalidDeck == Value.ref E_InvalidText) = false)
    : ∃ fd : FuncData, (∀ (s : Shared) (v : Value), BindsTo s fd ⟨[v], []⟩ [("script", v)]) ∧ ∀ base : Heap, K.In base → base.Ns mainGlobals mg → FnOk l.prog w K mg base CX0 18 fa fd ["script"] (spR K RLaw) := by
  have e := hfa.symm.trans (PySem.W.mg_of X G a27)
  cases e
  have B : Bt mg := ⟨PySem.W.mg_none_of X G z_all, PySem.W.mg_none_of X G z_bool, PySem.W.mg_none_of X G z_int, PySem.W.mg_none_of X G z_isinstance, PySem.W.mg_none_of X G z_len, PySem.W.mg_none_of X G z_list, PySem.W.mg_none_of X G z_max, PySem.W.mg_none_of X G z_range, PySem.W.mg_none_of X G z_set, PySem.W.mg_none_of X G z_str, PySem.W.mg_none_of X G z_tuple⟩
  have KC : Kt K mg := ⟨⟨⟨u_FROM_ZERO, PySem.W.mg_of X G y_FROM_ZERO, w_FROM_ZERO⟩⟩, ⟨⟨u_GREATEST_DEPTH, PySem.W.mg_of X G y_GREATEST_DEPTH, w_GREATEST_DEPTH⟩⟩, ⟨⟨u_GREATEST_NUMBER, PySem.W.mg_of X G y_GREATEST_NUMBER, w_GREATEST_NUMBER⟩⟩, ⟨⟨u_LAYERS, PySem.W.mg_of X G y_LAYERS, w_LAYERS⟩⟩, ⟨⟨u_MOST_CHARACTERS, PySem.W.mg_of X G y_MOST_CHARACTERS, w_MOST_CHARACTERS⟩⟩, ⟨⟨u_MOST_DEFINITIONS, PySem.W.mg_of X G y_MOST_DEFINITIONS, w_MOST_DEFINITIONS⟩⟩, ⟨⟨u_MOST_RULES, PySem.W.mg_of X G y_MOST_RULES, w_MOST_RULES⟩⟩, ⟨⟨u_PAIRING, PySem.W.mg_of X G y_PAIRING, w_PAIRING⟩⟩, ⟨⟨u_SIZING, PySem.W.mg_of X G y_SIZING, w_SIZING⟩⟩, ⟨⟨u_WORDS, PySem.W.mg_of X G y_WORDS, w_WORDS⟩⟩⟩
  have KL : Lt K mg := ⟨⟨⟨C_Deck, aC_Deck, PySem.W.mg_of X G aC_Deck, ⟨⟨pg_Deck, hd_Deck, po_Deck, sa_Deck⟩, ha_Deck, hn_Deck, htk_Deck, hm_Deck, kit_self⟩, kc_Deck, (List.forall_mem_cons.mpr ⟨na0_Deck, (List.forall_mem_cons.mpr ⟨na1_Deck, fun _ h => absurd h (by simp)⟩)⟩)⟩⟩⟩
  have WD : Zdt K w mg := ⟨⟨(List.forall_mem_cons.mpr ⟨kdl_mk (PySem.W.mg_of X G a_LAYER_COUNTS) l_LAYER_COUNTS q_LAYER_COUNTS v0_LAYER_COUNTS d0_LAYER_COUNTS, (List.forall_mem_cons.mpr ⟨kdl_mk (PySem.W.mg_of X G a_LAYER_COUNTS) l_LAYER_COUNTS q_LAYER_COUNTS v1_LAYER_COUNTS d1_LAYER_COUNTS, (List.forall_mem_cons.mpr ⟨kdl_mk (PySem.W.mg_of X G a_LAYER_COUNTS) l_LAYER_COUNTS q_LAYER_COUNTS v2_LAYER_COUNTS d2_LAYER_COUNTS, (List.forall_mem_cons.mpr ⟨kdl_mk (PySem.W.mg_of X G a_LAYER_COUNTS) l_LAYER_COUNTS q_LAYER_COUNTS v3_LAYER_COUNTS d3_LAYER_COUNTS, (List.forall_mem_cons.mpr ⟨kdl_mk (PySem.W.mg_of X G a_LAYER_COUNTS) l_LAYER_COUNTS q_LAYER_COUNTS v4_LAYER_COUNTS d4_LAYER_COUNTS, (List.forall_mem_cons.mpr ⟨kdl_mk (PySem.W.mg_of X G a_LAYER_COUNTS) l_LAYER_COUNTS q_LAYER_COUNTS v5_LAYER_COUNTS d5_LAYER_COUNTS, (List.forall_mem_cons.mpr ⟨kdl_mk (PySem.W.mg_of X G a_LAYER_COUNTS) l_LAYER_COUNTS q_LAYER_COUNTS v6_LAYER_COUNTS d6_LAYER_COUNTS, fun _ h => absurd h (by simp)⟩)⟩)⟩)⟩)⟩)⟩)⟩)⟩⟩
  have XF : Xt K mg := ⟨⟨⟨E_InvalidDeck, ea_InvalidDeck, PySem.W.mg_of X G ea_InvalidDeck, eq_InvalidDeck, ek_InvalidDeck, es_InvalidDeck, et_InvalidDeck, ⟨eg_InvalidDeck, en_InvalidDeck, es_InvalidDeck, ed_InvalidDeck, ec_InvalidDeck, ep_InvalidDeck, ex_InvalidDeck, em_InvalidDeck⟩⟩⟩, ⟨⟨E_InvalidDeck, E_ReticleError, ea_InvalidDeck, PySem.W.mg_of X G ea_ReticleError, PySem.W.exm_ref es_ReticleError ed_ReticleError et_ReticleError e4_m1⟩⟩, ⟨⟨E_InvalidDeck, E_InvalidDeck, ea_InvalidDeck, PySem.W.mg_of X G ea_InvalidDeck, kit_self⟩⟩, ⟨⟨E_InvalidDeck, E_InvalidRule, ea_InvalidDeck, PySem.W.mg_of X G ea_InvalidRule, kit_ref ed_InvalidRule et_InvalidRule e4_i2 e5_i2⟩⟩, ⟨⟨E_InvalidDeck, E_InvalidText, ea_InvalidDeck, PySem.W.mg_of X G ea_InvalidText, kit_ref ed_InvalidText et_InvalidText e4_i3 e5_i3⟩⟩⟩
  have F0 := fun_mk (st := s_is_name) l0 c0 k0
  have b0 := F0.binds (ps := ["name"]) fun _ _ _ _ _ _ us hl => match us, hl with | [_], _ => rfl
  have F1 := fun_mk (st := s_rule_layers) l1 c1 k1
  have b1 := F1.binds (ps := ["rule"]) fun _ _ _ _ _ _ us hl => match us, hl with | [_], _ => rfl
  have F2 := fun_mk (st := s_rule_numbers) l2 c2 k2
  have b2 := F2.binds (ps := ["rule"]) fun _ _ _ _ _ _ us hl => match us, hl with | [_], _ => rfl
  have F3 := fun_mk (st := s_is_rule_over) l3 c3 k3
  have b3 := F3.binds (ps := ["layers", "rule"]) fun _ _ _ _ _ _ us hl => match us, hl with | [_, _], _ => rfl
  have F4 := fun_mk (st := s_parts_of) l4 c4 k4
  have b4 := F4.binds (ps := ["expression"]) fun _ _ _ _ _ _ us hl => match us, hl with | [_], _ => rfl
  have F5 := fun_mk (st := s_inner_parts) l5 c5 k5
  have b5 := F5.binds (ps := ["expressions"]) fun _ _ _ _ _ _ us hl => match us, hl with | [_], _ => rfl
  have F6 := fun_mk (st := s_expression_depth) l6 c6 k6
  have b6 := F6.binds (ps := ["expression"]) fun _ _ _ _ _ _ us hl => match us, hl with | [_], _ => rfl
  have F7 := fun_mk (st := s_is_size) l7 c7 k7
  have b7 := F7.binds (ps := ["operation", "n"]) fun _ _ _ _ _ _ us hl => match us, hl with | [_, _], _ => rfl
  have F8 := fun_mk (st := s_is_expression_over_z0) l8 c8 k8
  have b8 := F8.binds (ps := ["layers", "expression", "depth"]) fun _ _ _ _ _ _ us hl => match us, hl with | [_, _, _], _ => rfl
  have F9 := fun_mk (st := s_is_new_layer) l9 c9 k9
  have b9 := F9.binds (ps := ["layers", "name"]) fun _ _ _ _ _ _ us hl => match us, hl with | [_, _], _ => rfl
  have F10 := fun_mk (st := s_Deck_init) l10 c10 k10
  have b10 := F10.binds (ps := ["self", "definitions", "rules"]) fun _ _ _ _ _ _ us hl => match us, hl with | [_, _, _], _ => rfl
  have F11 := fun_mk (st := s_law_cell) l11 c11 k11
  have b11 := F11.binds (ps := ["script", "k"]) fun _ _ _ _ _ _ us hl => match us, hl with | [_, _], _ => rfl
  have F12 := fun_mk (st := s_law_draws) l12 c12 k12
  have b12 := F12.binds (ps := ["cell", "count"]) fun _ _ _ _ _ _ us hl => match us, hl with | [_, _], _ => rfl
  have F13 := fun_mk (st := s_law_is_int) l13 c13 k13
  have b13 := F13.binds (ps := ["x"]) fun _ _ _ _ _ _ us hl => match us, hl with | [_], _ => rfl
  have F14 := fun_mk (st := s_law_is_number) l14 c14 k14
  have b14 := F14.binds (ps := ["x", "due"]) fun _ _ _ _ _ _ us hl => match us, hl with | [_, _], _ => rfl
  have F15 := fun_mk (st := s_law_layers) l15 c15 k15
  have b15 := F15.binds (ps := []) fun _ _ _ _ _ _ us hl => match us, hl with | [], _ => rfl
  have F16 := fun_mk (st := s_law_name) l16 c16 k16
  have b16 := F16.binds (ps := ["draw"]) fun _ _ _ _ _ _ us hl => match us, hl with | [_], _ => rfl
  have F17 := fun_mk (st := s_law_like_int) l17 c17 k17
  have b17 := F17.binds (ps := ["actual", "due"]) fun _ _ _ _ _ _ us hl => match us, hl with | [_, _], _ => rfl
  have F18 := fun_mk (st := s_law_qbad_name) l18 c18 k18
  have b18 := F18.binds (ps := ["draw"]) fun _ _ _ _ _ _ us hl => match us, hl with | [_], _ => rfl
  have F19 := fun_mk (st := s_law_qexpression_d0) l19 c19 k19
  have b19 := F19.binds (ps := ["draws", "at", "depth", "names"]) fun _ _ _ _ _ _ us hl => match us, hl with | [_, _, _, _], _ => rfl
  have F20 := fun_mk (st := s_law_qdefinitions) l20 c20 k20
  have b20 := F20.binds (ps := ["cell", "most", "depth"]) fun _ _ _ _ _ _ us hl => match us, hl with | [_, _, _], _ => rfl
  have F21 := fun_mk (st := s_law_qrule) l21 c21 k21
  have b21 := F21.binds (ps := ["draw", "more", "names"]) fun _ _ _ _ _ _ us hl => match us, hl with | [_, _, _], _ => rfl
  have F22 := fun_mk (st := s_law_qrules) l22 c22 k22
  have b22 := F22.binds (ps := ["cell", "most", "names"]) fun _ _ _ _ _ _ us hl => match us, hl with | [_, _, _], _ => rfl
  have F23 := fun_mk (st := s_law_refused) l23 c23 k23
  have b23 := F23.binds (ps := ["definitions", "rules"]) fun _ _ _ _ _ _ us hl => match us, hl with | [_, _], _ => rfl
  have F24 := fun_mk (st := s_law_tower) l24 c24 k24
  have b24 := F24.binds (ps := ["count"]) fun _ _ _ _ _ _ us hl => match us, hl with | [_], _ => rfl
  have F25 := fun_mk (st := s_law_bad_expressions) l25 c25 k25
  have b25 := F25.binds (ps := ["draw", "name"]) fun _ _ _ _ _ _ us hl => match us, hl with | [_, _], _ => rfl
  have F26 := fun_mk (st := s_law_bad_rules) l26 c26 k26
  have b26 := F26.binds (ps := ["draw"]) fun _ _ _ _ _ _ us hl => match us, hl with | [_], _ => rfl
  have F27 := fun_mk (st := s_law) l27 c27 k27
  refine ⟨PySem.W.fnOf "law" "law" (defArgs s_law) (defBody s_law) (defScope s_law) .none kV27 dc27 pm27 an27 cd27 ct27, fun s v => .of_eq rfl, fun base _ _ => ?_⟩
  have G_is_name : Fn l.prog w K mg base "is_name" 1 R_is_name := fn_wrap (PySem.W.mg_of X G a0) b0 F0.kp (ok_is_name F0 B KC KL WD XF )
  have G_rule_layers : Fn l.prog w K mg base "rule_layers" 1 R_rule_layers := fn_wrap (PySem.W.mg_of X G a1) b1 F1.kp (ok_rule_layers F1 B KC KL WD XF )
  have G_rule_numbers : Fn l.prog w K mg base "rule_numbers" 1 R_rule_numbers := fn_wrap (PySem.W.mg_of X G a2) b2 F2.kp (ok_rule_numbers F2 B KC KL WD XF )
  have G_parts_of : Fn l.prog w K mg base "parts_of" 1 R_parts_of := fn_wrap (PySem.W.mg_of X G a4) b4 F4.kp (ok_parts_of F4 B KC KL WD XF )
  have G_is_size : Fn l.prog w K mg base "is_size" 1 R_is_size := fn_wrap (PySem.W.mg_of X G a7) b7 F7.kp (ok_is_size F7 B KC KL WD XF )
  have G_law_cell : Fn l.prog w K mg base "_law_cell" 1 R_law_cell := fn_wrap (PySem.W.mg_of X G a11) b11 F11.kp (ok_law_cell F11 B KC KL WD XF )
  have G_law_draws : Fn l.prog w K mg base "_law_draws" 1 R_law_draws := fn_wrap (PySem.W.mg_of X G a12) b12 F12.kp (ok_law_draws F12 B KC KL WD XF )
  have G_law_is_int : Fn l.prog w K mg base "_law_is_int" 1 R_law_is_int := fn_wrap (PySem.W.mg_of X G a13) b13 F13.kp (ok_law_is_int F13 B KC KL WD XF )
  have G_law_layers : Fn l.prog w K mg base "_law_layers" 1 R_law_layers := fn_wrap (PySem.W.mg_of X G a15) b15 F15.kp (ok_law_layers F15 B KC KL WD XF )
  have G_law_name : Fn l.prog w K mg base "_law_name" 1 R_law_name := fn_wrap (PySem.W.mg_of X G a16) b16 F16.kp (ok_law_name F16 B KC KL WD XF )
  have G_law_qbad_name : Fn l.prog w K mg base "_law_qbad_name" 1 R_law_qbad_name := fn_wrap (PySem.W.mg_of X G a18) b18 F18.kp (ok_law_qbad_name F18 B KC KL WD XF )
  have G_law_qrule : Fn l.prog w K mg base "_law_qrule" 1 R_law_qrule := fn_wrap (PySem.W.mg_of X G a21) b21 F21.kp (ok_law_qrule F21 B KC KL WD XF )
  have G_law_tower : Fn l.prog w K mg base "_law_tower" 1 R_law_tower := fn_wrap (PySem.W.mg_of X G a24) b24 F24.kp (ok_law_tower F24 B KC KL WD XF )
  have G_law_bad_rules : Fn l.prog w K mg base "_law_bad_rules" 1 R_law_bad_rules := fn_wrap (PySem.W.mg_of X G a26) b26 F26.kp (ok_law_bad_rules F26 B KC KL WD XF )
  have G_is_rule_over : Fn l.prog w K mg base "is_rule_over" 2 R_is_rule_over := fn_wrap (PySem.W.mg_of X G a3) b3 F3.kp (ok_is_rule_over F3 B KC KL WD XF G_rule_layers G_rule_numbers)
  have G_inner_parts : Fn l.prog w K mg base "inner_parts" 2 R_inner_parts := fn_wrap (PySem.W.mg_of X G a5) b5 F5.kp (ok_inner_parts F5 B KC KL WD XF G_parts_of)
  have G_is_new_layer : Fn l.prog w K mg base "is_new_layer" 2 R_is_new_layer := fn_wrap (PySem.W.mg_of X G a9) b9 F9.kp (ok_is_new_layer F9 B KC KL WD XF G_is_name)
  have G_law_is_number : Fn l.prog w K mg base "_law_is_number" 2 R_law_is_number := fn_wrap (PySem.W.mg_of X G a14) b14 F14.kp (ok_law_is_number F14 B KC KL WD XF G_law_is_int)
  have G_law_qrules : Fn l.prog w K mg base "_law_qrules" 2 R_law_qrules := fn_wrap (PySem.W.mg_of X G a22) b22 F22.kp (ok_law_qrules F22 B KC KL WD XF G_law_draws G_law_qrule)
  have G_law_bad_expressions : Fn l.prog w K mg base "_law_bad_expressions" 2 R_law_bad_expressions := fn_wrap (PySem.W.mg_of X G a25) b25 F25.kp (ok_law_bad_expressions F25 B KC KL WD XF G_law_tower)
  have G_expression_depth : Fn l.prog w K mg base "expression_depth" 3 R_expression_depth := fn_wrap (PySem.W.mg_of X G a6) b6 F6.kp (ok_expression_depth F6 B KC KL WD XF G_inner_parts)
  have G_law_qexpression_d0 : Fn l.prog w K mg base "_law_qexpression" 1 R_law_qexpression_d0 := fn_wrap (PySem.W.mg_of X G a19) b19 F19.kp (ok_law_qexpression_d0 F19 B KC KL WD XF )
  have G_law_qexpression_d1 : Fn l.prog w K mg base "_law_qexpression" 2 R_law_qexpression_d1 := fn_wrap (PySem.W.mg_of X G a19) b19 F19.kp (ok_law_qexpression_d1 F19 B KC KL WD XF G_law_qexpression_d0 G_law_qexpression_d0)
  have G_law_qexpression_d2 : Fn l.prog w K mg base "_law_qexpression" 3 R_law_qexpression_d2 := fn_wrap (PySem.W.mg_of X G a19) b19 F19.kp (ok_law_qexpression_d2 F19 B KC KL WD XF G_law_qexpression_d1 G_law_qexpression_d1)
  have G_law_qexpression_d3 : Fn l.prog w K mg base "_law_qexpression" 4 R_law_qexpression_d3 := fn_wrap (PySem.W.mg_of X G a19) b19 F19.kp (ok_law_qexpression_d3 F19 B KC KL WD XF G_law_qexpression_d2 G_law_qexpression_d2)
  have G_law_qdefinitions : Fn l.prog w K mg base "_law_qdefinitions" 5 R_law_qdefinitions := fn_wrap (PySem.W.mg_of X G a20) b20 F20.kp (ok_law_qdefinitions F20 B KC KL WD XF G_law_draws G_law_layers G_law_name G_law_qexpression_d3 G_law_qexpression_d3)
  have G_law_like_int : Fn l.prog w K mg base "_law_like" 1 R_law_like_int := fn_wrap (PySem.W.mg_of X G a17) b17 F17.kp (ok_law_like_int F17 B KC KL WD XF )
  have G_law_like_str : Fn l.prog w K mg base "_law_like" 2 R_law_like_str := fn_wrap (PySem.W.mg_of X G a17) b17 F17.kp (ok_law_like_str F17 B KC KL WD XF )
  have G_law_like_m1 : Fn l.prog w K mg base "_law_like" 3 R_law_like_m1 := fn_wrap (PySem.W.mg_of X G a17) b17 F17.kp (ok_law_like_m1 F17 B KC KL WD XF G_law_like_int G_law_like_str)
  have G_law_like_m2 : Fn l.prog w K mg base "_law_like" 4 R_law_like_m2 := fn_wrap (PySem.W.mg_of X G a17) b17 F17.kp (ok_law_like_m2 F17 B KC KL WD XF G_law_like_int G_law_like_m1 G_law_like_str)
  have G_law_like_m3 : Fn l.prog w K mg base "_law_like" 5 R_law_like_m3 := fn_wrap (PySem.W.mg_of X G a17) b17 F17.kp (ok_law_like_m3 F17 B KC KL WD XF G_law_like_int G_law_like_m2 G_law_like_str)
  have G_law_like_m4 : Fn l.prog w K mg base "_law_like" 6 R_law_like_m4 := fn_wrap (PySem.W.mg_of X G a17) b17 F17.kp (ok_law_like_m4 F17 B KC KL WD XF G_law_like_int G_law_like_m3 G_law_like_str)
  have G_law_like_m5 : Fn l.prog w K mg base "_law_like" 7 R_law_like_m5 := fn_wrap (PySem.W.mg_of X G a17) b17 F17.kp (ok_law_like_m5 F17 B KC KL WD XF G_law_like_int G_law_like_m4 G_law_like_str)
  have G_law_like_m6 : Fn l.prog w K mg base "_law_like" 8 R_law_like_m6 := fn_wrap (PySem.W.mg_of X G a17) b17 F17.kp (ok_law_like_m6 F17 B KC KL WD XF G_law_like_int G_law_like_m5 G_law_like_str)
  have G_is_expression_over_z0 : Fn l.prog w K mg base "is_expression_over" 2 R_is_expression_over_z0 := fn_wrap (PySem.W.mg_of X G a8) b8 F8.kp (ok_is_expression_over_z0 F8 B KC KL WD XF )
  have G_is_expression_over_z1 : Fn l.prog w K mg base "is_expression_over" 3 R_is_expression_over_z1 := fn_wrap (PySem.W.mg_of X G a8) b8 F8.kp (ok_is_expression_over_z1 F8 B KC KL WD XF G_is_expression_over_z0 G_is_expression_over_z0 G_is_size G_parts_of)
  have G_is_expression_over_z2 : Fn l.prog w K mg base "is_expression_over" 4 R_is_expression_over_z2 := fn_wrap (PySem.W.mg_of X G a8) b8 F8.kp (ok_is_expression_over_z2 F8 B KC KL WD XF G_is_expression_over_z1 G_is_expression_over_z1 G_is_size G_parts_of)
  have G_is_expression_over_z3 : Fn l.prog w K mg base "is_expression_over" 5 R_is_expression_over_z3 := fn_wrap (PySem.W.mg_of X G a8) b8 F8.kp (ok_is_expression_over_z3 F8 B KC KL WD XF G_is_expression_over_z2 G_is_expression_over_z2 G_is_size G_parts_of)
  have G_is_expression_over_z4 : Fn l.prog w K mg base "is_expression_over" 6 R_is_expression_over_z4 := fn_wrap (PySem.W.mg_of X G a8) b8 F8.kp (ok_is_expression_over_z4 F8 B KC KL WD XF G_is_expression_over_z3 G_is_expression_over_z3 G_is_size G_parts_of)
  have G_is_expression_over_z5 : Fn l.prog w K mg base "is_expression_over" 7 R_is_expression_over_z5 := fn_wrap (PySem.W.mg_of X G a8) b8 F8.kp (ok_is_expression_over_z5 F8 B KC KL WD XF G_is_expression_over_z4 G_is_expression_over_z4 G_is_size G_parts_of)
  have G_is_expression_over_z6 : Fn l.prog w K mg base "is_expression_over" 8 R_is_expression_over_z6 := fn_wrap (PySem.W.mg_of X G a8) b8 F8.kp (ok_is_expression_over_z6 F8 B KC KL WD XF G_is_expression_over_z5 G_is_expression_over_z5 G_is_size G_parts_of)
  have G_is_expression_over_z7 : Fn l.prog w K mg base "is_expression_over" 9 R_is_expression_over_z7 := fn_wrap (PySem.W.mg_of X G a8) b8 F8.kp (ok_is_expression_over_z7 F8 B KC KL WD XF G_is_expression_over_z6 G_is_expression_over_z6 G_is_size G_parts_of)
  have G_is_expression_over_z8 : Fn l.prog w K mg base "is_expression_over" 10 R_is_expression_over_z8 := fn_wrap (PySem.W.mg_of X G a8) b8 F8.kp (ok_is_expression_over_z8 F8 B KC KL WD XF G_is_expression_over_z7 G_is_expression_over_z7 G_is_size G_parts_of)
  have G_is_expression_over_z9 : Fn l.prog w K mg base "is_expression_over" 11 R_is_expression_over_z9 := fn_wrap (PySem.W.mg_of X G a8) b8 F8.kp (ok_is_expression_over_z9 F8 B KC KL WD XF G_is_expression_over_z8 G_is_expression_over_z8 G_is_size G_parts_of)
  have G_is_expression_over_z10 : Fn l.prog w K mg base "is_expression_over" 12 R_is_expression_over_z10 := fn_wrap (PySem.W.mg_of X G a8) b8 F8.kp (ok_is_expression_over_z10 F8 B KC KL WD XF G_is_expression_over_z9 G_is_expression_over_z9 G_is_size G_parts_of)
  have G_is_expression_over_z11 : Fn l.prog w K mg base "is_expression_over" 13 R_is_expression_over_z11 := fn_wrap (PySem.W.mg_of X G a8) b8 F8.kp (ok_is_expression_over_z11 F8 B KC KL WD XF G_is_expression_over_z10 G_is_expression_over_z10 G_is_size G_parts_of)
  have G_is_expression_over_z12 : Fn l.prog w K mg base "is_expression_over" 14 R_is_expression_over_z12 := fn_wrap (PySem.W.mg_of X G a8) b8 F8.kp (ok_is_expression_over_z12 F8 B KC KL WD XF G_is_expression_over_z11 G_is_expression_over_z11 G_is_size G_parts_of)
  have G_Deck_init : FnI l.prog w K mg base "Deck" 15 R_Deck_init := ⟨⟨C_Deck, f10, _, _, aC_Deck, PySem.W.mg_of X G aC_Deck, ⟨mk_Deck, a10, i10, kc_Deck⟩, ok_Deck_init F10 B KC KL WD XF G_is_expression_over_z12 G_is_expression_over_z12 G_is_new_layer G_is_rule_over, b10⟩⟩
  have GX_Deck_init : FnIXG l.prog w K mg base "Deck" 15 RX_Deck_init := ⟨⟨C_Deck, f10, _, _, aC_Deck, PySem.W.mg_of X G aC_Deck, ⟨mk_Deck, a10, i10, kc_Deck⟩, okX_Deck_init F10 B KC KL WD XF G_is_expression_over_z12 G_is_expression_over_z12 G_is_new_layer G_is_rule_over, b10⟩⟩
  have G_law_refused : Fn l.prog w K mg base "_law_refused" 17 R_law_refused := fn_wrap (PySem.W.mg_of X G a23) b23 F23.kp (ok_law_refused F23 B KC KL WD XF GX_Deck_init)
  exact ok_law F27 B KC KL WD XF G_Deck_init G_law_bad_expressions G_law_bad_rules G_law_cell G_law_draws G_law_is_number G_law_layers G_law_like_m6 G_law_like_m6 G_law_qbad_name G_law_qdefinitions G_law_qrules G_law_refused G_law_tower G_expression_depth
end DL
open PySem PySem.W PyProof.Rows
local macro_rules | `(tactic| walk_at "kd") => `(tactic| first | exact DL.kd_int | exact DL.kd_bl | exact DL.kd_str | (refine' DL.kd_tup ?l ?c ?e ?z ?r; (case l => k_is); (case c => rfl); (case e => rfl); (case z => decide); (case r => walk_at "kds")))
local macro_rules | `(tactic| walk_at "kds") => `(tactic| first | exact DL.kds_nil | (refine' DL.kds_cons ?a ?b; (case a => walk_at "kd"); (case b => walk_at "kds")))
set_option maxRecDepth 100000 in
set_option maxHeartbeats 0 in
theorem PySem.Challenge.cw_reticle_k46_valid_decks_holds : PySem.Challenge.rw_reticle_k46_valid_decks.Holds := by
  w_on; o_law; k_head; (case hw => w_witness2)
  k_fill
  refine DL.walk_law (l := PySem.Challenge.rw_reticle_k46_valid_decks) (k := 18) rfl ⟨rfl, by decide, by decide⟩ rfl (fun w h Y => PySem.W.kIn_of Y) ?F
  case F =>
    intro w mg fa h KX G hmg
    refine' DL.all_mk KX G hmg ?aC_Deck ?pg_Deck ?hd_Deck ?po_Deck ?sa_Deck ?ha_Deck ?hn_Deck ?htk_Deck ?hm_Deck ?kc_Deck ?mk_Deck ?na0_Deck ?na1_Deck ?a0 ?l0 ?c0 ?k0 ?a1 ?l1 ?c1 ?k1 ?a2 ?l2 ?c2 ?k2 ?a3 ?l3 ?c3 ?k3 ?a4 ?l4 ?c4 ?k4 ?a5 ?l5 ?c5 ?k5 ?a6 ?l6 ?c6 ?k6 ?a7 ?l7 ?c7 ?k7 ?a8 ?l8 ?c8 ?k8 ?a9 ?l9 ?c9 ?k9 ?a10 ?i10 ?l10 ?c10 ?k10 ?a11 ?l11 ?c11 ?k11 ?a12 ?l12 ?c12 ?k12 ?a13 ?l13 ?c13 ?k13 ?a14 ?l14 ?c14 ?k14 ?a15 ?l15 ?c15 ?k15 ?a16 ?l16 ?c16 ?k16 ?a17 ?l17 ?c17 ?k17 ?a18 ?l18 ?c18 ?k18 ?a19 ?l19 ?c19 ?k19 ?a20 ?l20 ?c20 ?k20 ?a21 ?l21 ?c21 ?k21 ?a22 ?l22 ?c22 ?k22 ?a23 ?l23 ?c23 ?k23 ?a24 ?l24 ?c24 ?k24 ?a25 ?l25 ?c25 ?k25 ?a26 ?l26 ?c26 ?k26 ?a27 ?l27 ?c27 ?k27 ?z_all ?z_bool ?z_int ?z_isinstance ?z_len ?z_list ?z_max ?z_range ?z_set ?z_str ?z_tuple ?y_FROM_ZERO ?w_FROM_ZERO ?y_GREATEST_DEPTH ?w_GREATEST_DEPTH ?y_GREATEST_NUMBER ?w_GREATEST_NUMBER ?y_LAYERS ?w_LAYERS ?y_MOST_CHARACTERS ?w_MOST_CHARACTERS ?y_MOST_DEFINITIONS ?w_MOST_DEFINITIONS ?y_MOST_RULES ?w_MOST_RULES ?y_PAIRING ?w_PAIRING ?y_SIZING ?w_SIZING ?y_WORDS ?w_WORDS ?a_LAYER_COUNTS ?l_LAYER_COUNTS ?q_LAYER_COUNTS ?v0_LAYER_COUNTS ?d0_LAYER_COUNTS ?v1_LAYER_COUNTS ?d1_LAYER_COUNTS ?v2_LAYER_COUNTS ?d2_LAYER_COUNTS ?v3_LAYER_COUNTS ?d3_LAYER_COUNTS ?v4_LAYER_COUNTS ?d4_LAYER_COUNTS ?v5_LAYER_COUNTS ?d5_LAYER_COUNTS ?v6_LAYER_COUNTS ?d6_LAYER_COUNTS ?ea_InvalidDeck ?es_InvalidDeck ?ed_InvalidDeck ?et_InvalidDeck ?eq_InvalidDeck ?ek_InvalidDeck ?eg_InvalidDeck ?en_InvalidDeck ?ec_InvalidDeck ?ep_InvalidDeck ?ex_InvalidDeck ?em_InvalidDeck ?ea_ReticleError ?es_ReticleError ?ed_ReticleError ?et_ReticleError ?e4_m1 ?ea_InvalidRule ?es_InvalidRule ?ed_InvalidRule ?et_InvalidRule ?e4_i2 ?e5_i2 ?ea_InvalidText ?es_InvalidText ?ed_InvalidText ?et_InvalidText ?e4_i3 ?e5_i3
    (case aC_Deck => k_is); (case pg_Deck => k_is); (case hd_Deck => k_is); (case po_Deck => k_is); (case sa_Deck => k_is); (case ha_Deck => k_is); (case hn_Deck => k_is); (case htk_Deck => k_is)
    (case hm_Deck => k_is); (case kc_Deck => k_is); (case mk_Deck => k_is); (case na0_Deck => k_is); (case na1_Deck => k_is); (case a0 => k_is); (case l0 => k_is); (case c0 => k_is)
    (case k0 => k_is); (case a1 => k_is); (case l1 => k_is); (case c1 => k_is); (case k1 => k_is); (case a2 => k_is); (case l2 => k_is); (case c2 => k_is)
    (case k2 => k_is); (case a3 => k_is); (case l3 => k_is); (case c3 => k_is); (case k3 => k_is); (case a4 => k_is); (case l4 => k_is); (case c4 => k_is)
    (case k4 => k_is); (case a5 => k_is); (case l5 => k_is); (case c5 => k_is); (case k5 => k_is); (case a6 => k_is); (case l6 => k_is); (case c6 => k_is)
    (case k6 => k_is); (case a7 => k_is); (case l7 => k_is); (case c7 => k_is); (case k7 => k_is); (case a8 => k_is); (case l8 => k_is); (case c8 => k_is)
    (case k8 => k_is); (case a9 => k_is); (case l9 => k_is); (case c9 => k_is); (case k9 => k_is); (case a10 => k_is); (case i10 => k_is); (case l10 => k_is)
    (case c10 => k_is); (case k10 => k_is); (case a11 => k_is); (case l11 => k_is); (case c11 => k_is); (case k11 => k_is); (case a12 => k_is); (case l12 => k_is)
    (case c12 => k_is); (case k12 => k_is); (case a13 => k_is); (case l13 => k_is); (case c13 => k_is); (case k13 => k_is); (case a14 => k_is); (case l14 => k_is)
    (case c14 => k_is); (case k14 => k_is); (case a15 => k_is); (case l15 => k_is); (case c15 => k_is); (case k15 => k_is); (case a16 => k_is); (case l16 => k_is)
    (case c16 => k_is); (case k16 => k_is); (case a17 => k_is); (case l17 => k_is); (case c17 => k_is); (case k17 => k_is); (case a18 => k_is); (case l18 => k_is)
    (case c18 => k_is); (case k18 => k_is); (case a19 => k_is); (case l19 => k_is); (case c19 => k_is); (case k19 => k_is); (case a20 => k_is); (case l20 => k_is)
    (case c20 => k_is); (case k20 => k_is); (case a21 => k_is); (case l21 => k_is); (case c21 => k_is); (case k21 => k_is); (case a22 => k_is); (case l22 => k_is)
    (case c22 => k_is); (case k22 => k_is); (case a23 => k_is); (case l23 => k_is); (case c23 => k_is); (case k23 => k_is); (case a24 => k_is); (case l24 => k_is)
    (case c24 => k_is); (case k24 => k_is); (case a25 => k_is); (case l25 => k_is); (case c25 => k_is); (case k25 => k_is); (case a26 => k_is); (case l26 => k_is)
    (case c26 => k_is); (case k26 => k_is); (case a27 => k_is); (case l27 => k_is); (case c27 => k_is); (case k27 => k_is); (case z_all => k_is); (case z_bool => k_is)
    (case z_int => k_is); (case z_isinstance => k_is); (case z_len => k_is); (case z_list => k_is); (case z_max => k_is); (case z_range => k_is); (case z_set => k_is); (case z_str => k_is)
    (case z_tuple => k_is); (case y_FROM_ZERO => k_is); (case w_FROM_ZERO => walk_at "kd"); (case y_GREATEST_DEPTH => k_is); (case w_GREATEST_DEPTH => walk_at "kd"); (case y_GREATEST_NUMBER => k_is); (case w_GREATEST_NUMBER => walk_at "kd"); (case y_LAYERS => k_is)
    (case w_LAYERS => walk_at "kd"); (case y_MOST_CHARACTERS => k_is); (case w_MOST_CHARACTERS => walk_at "kd"); (case y_MOST_DEFINITIONS => k_is); (case w_MOST_DEFINITIONS => walk_at "kd"); (case y_MOST_RULES => k_is); (case w_MOST_RULES => walk_at "kd"); (case y_PAIRING => k_is)
    (case w_PAIRING => walk_at "kd"); (case y_SIZING => k_is); (case w_SIZING => walk_at "kd"); (case y_WORDS => k_is); (case w_WORDS => walk_at "kd"); (case a_LAYER_COUNTS => k_is); (case l_LAYER_COUNTS => k_is); (case q_LAYER_COUNTS => exact ⟨⟨_, _, rfl, rfl⟩, ⟨⟨_, _, rfl, rfl⟩, ⟨⟨_, _, rfl, rfl⟩, ⟨⟨_, _, rfl, rfl⟩, ⟨⟨_, _, rfl, rfl⟩, ⟨⟨_, _, rfl, rfl⟩, ⟨⟨_, _, rfl, rfl⟩, trivial⟩⟩⟩⟩⟩⟩⟩)
    (case v0_LAYER_COUNTS => k_is); (case d0_LAYER_COUNTS => walk_at "kd"); (case v1_LAYER_COUNTS => k_is); (case d1_LAYER_COUNTS => walk_at "kd"); (case v2_LAYER_COUNTS => k_is); (case d2_LAYER_COUNTS => walk_at "kd"); (case v3_LAYER_COUNTS => k_is); (case d3_LAYER_COUNTS => walk_at "kd")
    (case v4_LAYER_COUNTS => k_is); (case d4_LAYER_COUNTS => walk_at "kd"); (case v5_LAYER_COUNTS => k_is); (case d5_LAYER_COUNTS => walk_at "kd"); (case v6_LAYER_COUNTS => k_is); (case d6_LAYER_COUNTS => walk_at "kd"); (case ea_InvalidDeck => k_is); (case es_InvalidDeck => k_is)
    (case ed_InvalidDeck => k_is); (case et_InvalidDeck => k_is); (case eq_InvalidDeck => k_exc); (case ek_InvalidDeck => k_is); (case eg_InvalidDeck => k_is); (case en_InvalidDeck => k_is); (case ec_InvalidDeck => k_is); (case ep_InvalidDeck => k_is)
    (case ex_InvalidDeck => k_is); (case em_InvalidDeck => k_is); (case ea_ReticleError => k_is); (case es_ReticleError => k_is); (case ed_ReticleError => k_is); (case et_ReticleError => k_is); (case e4_m1 => k_is); (case ea_InvalidRule => k_is)
    (case es_InvalidRule => k_is); (case ed_InvalidRule => k_is); (case et_InvalidRule => k_is); (case e4_i2 => k_is); (case e5_i2 => decide); (case ea_InvalidText => k_is); (case es_InvalidText => k_is); (case ed_InvalidText => k_is)
    (case et_InvalidText => k_is); (case e4_i3 => k_is); (case e5_i3 => decide)
