import PyProof.Rows.All
import Wide.All
import OpenK.AllK
import Wide.FinOn
import PyProof.EqAt
import PyProof.EqKinds
import PyProof.TupleCall
import KE.GoesEnum
import HandS.Base
import HandS.Call
import HandS.List
import HandS.Comp
import HandS.Iter
import KE.GoesComp
import KE.GoesRaise
import HandS.Exc
import KE.KExcInit
import HandS.ExcInit
import HandS.ExcField
import HandS.ExcOwn
import HandS.Words
import HandS.WordsList
import HandS.WordsExc
import KE.KDictKeyed
import KE.KDictCopyH
import HandS.Dict
import HandS.Conv
import HandS.ForSpec
import HandS.CallLocal
import HandS.Deep
import HandS.Zip
import KE.DataMinMax
import KE.KDictZip
import KE.KItemsList
import PyProof.DictMoreH
import HandS.Walk
import HandS.SortKw
import HandS.SetKeys
import HandS.Small
import KE.OsGo
import HandS.ForMost
import HandS.Flow
import Open.SpecLaws
import PySem.Challenge.RW_glossrows_s01_answers
import HandS.TupAny
import HandS.SortRule
import HandS.TryOnly
import PyWideLaws
section
namespace G
abbrev Bytes := List Nat
end G

end

section
set_option Elab.async false
set_option linter.all false
set_option maxRecDepth 100000
set_option maxHeartbeats 2000000
/-! three lists walked abreast: zip(xs, ys, zs) -/
namespace GR
open PySem PySem.Spec PyProof.Rows L2

def Abr (K : PySem.W.Frag) (a b c : Addr) : It where
  go := fun i H => ∃ (xs ys zs : List V) (x y z : V), SqL K H a xs ∧ SqL K H b ys ∧ SqL K H c zs ∧
    xs[i]? = some x ∧ ys[i]? = some y ∧ zs[i]? = some z
  yld := fun i H v H' => ∃ T x y z, v = .ref T ∧ H T = none ∧ H' = upd H T (.tup [x, y, z]) ∧
    (∀ l, SqL K H a l → l[i]? = some x) ∧ (∀ l, SqL K H b l → l[i]? = some y) ∧ (∀ l, SqL K H c l → l[i]? = some z)
  stop := fun i H => ∃ xs ys zs : List V, SqL K H a xs ∧ SqL K H b ys ∧ SqL K H c zs ∧
    xs.length = i ∧ ys.length = i ∧ zs.length = i

theorem in6 {P : Addr → Prop} {z TI TO i1 i2 i3 : Addr} (h1 : P z) (h2 : P TI) (h3 : P TO) (h4 : P i1) (h5 : P i2) (h6 : P i3) :
    ∀ c, c ∈ [z, TI, TO, i1, i2, i3] → P c := by
  intro c hc
  have e : c = z ∨ c = TI ∨ c = TO ∨ c = i1 ∨ c = i2 ∨ c = i3 := by simpa using hc
  rcases e with e | e | e | e | e | e <;> (rw [e]; assumption)

abbrev ZS (z TI TO i1 i2 i3 a b c : Addr) (i : Nat) (h : Heap) : Prop :=
  IsZip h z TI TO .none ∧ IsTupOf3 h TI (.ref i1) (.ref i2) (.ref i3) ∧ (∃ x y q, IsTupOf3 h TO x y q) ∧
    h.IsListIter i1 a i ∧ h.IsListIter i2 b i ∧ h.IsListIter i3 c i

theorem turn_abr {P : Program} {w : World} {K : PySem.W.Frag} {elts : List Expr} {kk : Nat} {tpos : Pos} {a b c z TI TO i1 i2 i3 : Addr}
    (D : ZipSep3 z TI TO i1 i2 i3 [i1, a] [i2, b] [i3, c]) (n1 : a ≠ i1) (n2 : b ≠ i2) (n3 : c ≠ i3) :
    Turn P w K (.Tuple elts kk tpos) (Abr K a b c) [z, TI, TO, i1, i2, i3] z (ZS z TI TO i1 i2 i3 a b c) where
  mem := by simp
  obj := fun i h st => by
    obtain ⟨hz, hTI, ⟨x, y, q, hTO⟩, ⟨o1, e1, _, d1⟩, ⟨o2, e2, _, d2⟩, ⟨o3, e3, _, d3⟩⟩ := st
    refine in6 ⟨_, hz, fun v q => nomatch q⟩ ⟨_, hTI, fun v q => nomatch q⟩ ⟨_, hTO, fun v q => nomatch q⟩
      ⟨o1, e1, fun v q => ?_⟩ ⟨o2, e2, fun v q => ?_⟩ ⟨o3, e3, fun v q => ?_⟩
    · rw [d1] at q; cases q
    · rw [d2] at q; cases q
    · rw [d3] at q; cases q
  keep := fun i h h' st k => by
    obtain ⟨hz, hTI, ⟨x, y, q, hTO⟩, h1, h2, h3⟩ := st
    exact ⟨k z (by simp) _ hz, k TI (by simp) _ hTI, ⟨x, y, q, k TO (by simp) _ hTO⟩,
      h1.at fun o q => k i1 (by simp) o q, h2.at fun o q => k i2 (by simp) o q, h3.at fun o q => k i3 (by simp) o q⟩
  item := by
    intro X hP hw hK hc i pins s σ H E I hf st hg
    subst hP hw hK
    obtain ⟨hz, hTI, ⟨x0, y0, q0, hTO⟩, h1, h2, h3⟩ := st
    obtain ⟨xs, ys, zs, x, y, q, sx, sy, sz, gx, gy, gz⟩ := hg
    obtain ⟨A1, rA, pA, _⟩ := I.list sx
    obtain ⟨A2, rB, pB, _⟩ := I.list sy
    obtain ⟨A3, rC, pC, _⟩ := I.list sz
    obtain ⟨u1, hu1, ru1⟩ := rA.get gx
    obtain ⟨u2, hu2, ru2⟩ := rB.get gy
    obtain ⟨u3, hu3, ru3⟩ := rC.get gz
    have lt : ∀ {l : List Value} {u : Value}, l[i]? = some u → i < l.toArray.size := fun {l u} e => by
      obtain ⟨h, _⟩ := List.getElem?_eq_some_iff.mp e
      simpa using h
    have hh : X.A.in1.handled = none := I.ok.hd hc
    have hzl : z < s.heap.objs.size := Heap.lt_size hz
    refine wpAny_pyNext_zipD3_item (i := i) D (Draws.list hh i1 a n1 A1.toArray) (Draws.list hh i2 b n2 A2.toArray) (Draws.list hh i3 c n3 A3.toArray)
      hz hTI hTO ⟨h1, pA.isList⟩ ⟨h2, pB.isList⟩ ⟨h3, pC.isList⟩ (lt hu1) (lt hu2) (lt hu3) ?_
    intro v1 v2 v3 h' tk y1 y2 y3 z' TO' s1 s2 s3 hT hsz hk
    have e1 : v1 = u1 := by
      have y1 : A1.toArray[i]? = some v1 := y1
      rw [List.getElem?_toArray, hu1] at y1
      exact (Option.some.inj y1).symm
    have e2 : v2 = u2 := by
      have y2 : A2.toArray[i]? = some v2 := y2
      rw [List.getElem?_toArray, hu2] at y2
      exact (Option.some.inj y2).symm
    have e3 : v3 = u3 := by
      have y3 : A3.toArray[i]? = some v3 := y3
      rw [List.getElem?_toArray, hu3] at y3
      exact (Option.some.inj y3).symm
    subst e1 e2 e3
    refine ⟨_, rfl, wpAny_letOwnedTupleGo_zip (s := { s with heap := h', toks := tk }) z' fun h'' z'' sb => ?_⟩
    have hT2 : h''.get? s.heap.objs.size = some { cls := .type "tuple", data := .seq #[v1, v2, v3] } := (sb.2 _ (Nat.ne_of_gt hzl)).trans hT
    have new : ObjOk X.prog X.w (upd H s.heap.objs.size (.tup [x, y, q])) h'' s.heap.objs.size (.tup [x, y, q]) :=
      ⟨by show 3 ≤ sizeLine; decide, [v1, v2, v3], .cons ru1 (.cons ru2 (.cons ru3 .nil)), ⟨_, hT2, rfl, _, rfl⟩⟩
    have kk : ∀ b o, b ∉ [z, TI, TO, i1, i2, i3] → s.heap.get? b = some o → h''.get? b = some o := fun b o hb e => by
      simp only [List.mem_cons, List.not_mem_nil, or_false, not_or] at hb
      exact (sb.2 b hb.1).trans (hk b o hb.1 hb.2.2.1 hb.2.2.2.1 hb.2.2.2.2.1 hb.2.2.2.2.2 e)
    have I1 := I.turnedNew (t' := tk) kk hf (Nat.le_refl _) new
    have ne1 : i1 ≠ z := fun e => D.zf1 (by rw [← e]; simp)
    have ne2 : i2 ≠ z := fun e => D.zf2 (by rw [← e]; simp)
    have ne3 : i3 ≠ z := fun e => D.zf3 (by rw [← e]; simp)
    refine ⟨.ref s.heap.objs.size, _, I1, rfl, ⟨_, x, y, q, rfl, I.hok.fresh (Nat.le_refl _), rfl, fun l hl => ?_, fun l hl => ?_, fun l hl => ?_⟩,
      ⟨z'', (sb.2 _ D.TIz).trans (hk _ _ D.TIz D.TITO D.TIi1 D.TIi2 D.TIi3 hTI), ⟨v1, v2, v3, (sb.2 _ D.TOz).trans TO'⟩,
        s1.1.at fun o q => (sb.2 _ ne1).trans q, s2.1.at fun o q => (sb.2 _ ne2).trans q, s3.1.at fun o q => (sb.2 _ ne3).trans q⟩, fun d hd => ?_⟩
    · rw [I.list_inj hl sx]; exact gx
    · rw [I.list_inj hl sy]; exact gy
    · rw [I.list_inj hl sz]; exact gz
    · have hlt : d < s.heap.objs.size := by
        obtain ⟨o1, f1, _⟩ := h1
        obtain ⟨o2, f2, _⟩ := h2
        obtain ⟨o3, f3, _⟩ := h3
        exact in6 (P := fun d => d < s.heap.objs.size) hzl (Heap.lt_size hTI) (Heap.lt_size hTO) (Heap.lt_size f1) (Heap.lt_size f2) (Heap.lt_size f3) d hd
      rw [upd_ne (Nat.ne_of_lt hlt)]
      exact (hf d hd).1
  done := by
    intro X hP hw hK hc i pins s σ H E I hf st hg
    subst hP hw hK
    obtain ⟨hz, hTI, ⟨x0, y0, q0, hTO⟩, h1, h2, h3⟩ := st
    obtain ⟨xs, ys, zs, sx, sy, sz, gx, gy, gz⟩ := hg
    obtain ⟨A1, rA, pA, _⟩ := I.list sx
    obtain ⟨A2, rB, pB, _⟩ := I.list sy
    obtain ⟨A3, rC, pC, _⟩ := I.list sz
    have z1 : i = A1.toArray.size := by rw [List.size_toArray, ← rA.length, gx]
    have z2 : i = A2.toArray.size := by rw [List.size_toArray, ← rB.length, gy]
    have z3 : i = A3.toArray.size := by rw [List.size_toArray, ← rC.length, gz]
    have hh : X.A.in1.handled = none := I.ok.hd hc
    refine wpAny_pyNext_zipD3_end (i := i) D (Draws.list hh i1 a n1 A1.toArray) (Draws.list hh i2 b n2 A2.toArray) (Draws.list hh i3 c n3 A3.toArray)
      hz hTI hTO ⟨h1, pA.isList⟩ ⟨h2, pB.isList⟩ ⟨h3, pC.isList⟩ (Nat.le_of_eq z1) (Nat.le_of_eq z2) (Nat.le_of_eq z3) (.inl z1) fun h' tk hk => ?_
    refine ⟨rfl, I.turnedL (t' := tk) (ch := [z, TI, TO, i1, i2, i3]) (fun d o hb e => ?_) hf⟩
    simp only [List.mem_cons, List.not_mem_nil, or_false, not_or] at hb
    exact hk d o hb.1 hb.2.2.1 hb.2.2.2.1 hb.2.2.2.2.1 hb.2.2.2.2.2 e
  self := fun A i s Q E st h => wpAny_pyIter_zip st.1 h

def iAbr (K : PySem.W.Frag) (ta : TA) : TI := fun σ H R => ta σ H fun vs H1 =>
  ∃ a b c xs ys zs, vs = [.ref a, .ref b, .ref c] ∧ SqL K H1 a xs ∧ SqL K H1 b ys ∧ SqL K H1 c zs ∧ R (Abr K a b c) H1

theorem pi_abr {X : Cx} {e e2 e3 : Expr} {ta : TA} {p pos tpos : Pos} {elts : List Expr} {kk : Nat} (hg : Gl X "zip") (hm : X.mg "zip" = none) (ha : PA X [e, e2, e3] ta)
    (hs : starEach [e, e2, e3] X.env = (false, eval e X.env) :: starEach [e2, e3] X.env := by rfl) (hpl : (backTo pos (starEach [e2, e3] X.env)).any (·.1) = false := by rfl) :
    PI X (.Tuple elts kk tpos) (.Call (.Name "zip" p) [e, e2, e3] [] pos) (iAbr X.K ta) := by
  refine ⟨fun pins s σ H R I h => ?_⟩
  refine Call_ (ld_blt I hg hm PyProof.Rows.boot_zip ?_)
  refine PyProof.Rows.callWith_type1 (thn (ha.run pos pins s σ H _ I h) fun us s1 hh => ?_) hs hpl
  obtain ⟨vs, H1, I1, r1, a, b, c, xs, ys, zs, rfl, sx, sy, sz, q⟩ := hh
  cases r1 with
  | cons ra r1 =>
    cases r1 with
    | cons rb r1 =>
      cases r1 with
      | cons rc r1 =>
        cases r1
        cases ra
        cases rb
        cases rc
        obtain ⟨A1, rA, pA, _⟩ := I1.list sx
        obtain ⟨A2, rB, pB, _⟩ := I1.list sy
        obtain ⟨A3, rC, pC, _⟩ := I1.list sz
        refine zip_begins3 (begins_list a A1.toArray) (begins_list b A2.toArray) (begins_list c A3.toArray) pA.isList pB.isList pC.isList ?_
        intro h' hz hTI hTO g1 g2 g3 hsz hk
        refine wpAny_pyIter_zip hz ?_
        have I2 := I1.kept (t' := s1.toks) hk
        have sep := zip_sep3 (N := s1.heap.objs.size) (fp1 := [a]) (fp2 := [b]) (fp3 := [c]) (fun d hd => by rw [List.mem_singleton.mp hd]; exact pA.lt)
          (fun d hd => by rw [List.mem_singleton.mp hd]; exact pB.lt) (fun d hd => by rw [List.mem_singleton.mp hd]; exact pC.lt)
        have ne : ∀ {d : Addr} (k : Nat), d < s1.heap.objs.size → d ≠ s1.heap.objs.size + k := fun {d} k h1 =>
          Nat.ne_of_lt (Nat.lt_of_lt_of_le h1 (Nat.le_add_right _ k))
        have fre : ∀ k : Nat, FpOk X pins H1 (s1.heap.objs.size + k) := fun k => I1.fpOk (Nat.le_add_right _ _) (I1.hok.fresh (Nat.le_add_right _ _))
        refine ⟨s1.heap.objs.size + 5, _, _, _, H1, rfl, I2, turn_abr (a := a) (b := b) (c := c) sep (ne 0 pA.lt) (ne 1 pB.lt) (ne 2 pC.lt),
          ⟨hz, hTI, ⟨_, _, _, hTO⟩, ⟨_, g1, rfl, rfl⟩, ⟨_, g2, rfl, rfl⟩, ⟨_, g3, rfl, rfl⟩⟩, in6 (fre 5) (fre 3) (fre 4) (fre 0) (fre 1) (fre 2), q⟩
end GR

end

section
set_option Elab.async false
set_option linter.all false
set_option maxRecDepth 100000
set_option maxHeartbeats 2000000
/-! a list comprehension whose element is a call that may raise -/
namespace GR
open PySem PySem.Spec PyProof.Rows L2

/-- what a call let out, seen from the caller's context: in flight over its stack -/
theorem fly_call {Y : Cx} {pins : List (Addr × Obj)} {σ : L2.St} {H : Hp} {s s' : Shared} {E : XK} {u : Value} (I : Inv Y pins σ H s) (c : L2.CX Y.prog Y.w Y.stack H s E u s') :
    ∃ (a : Addr) (B : Heap) (sI : Shared) (H' : Hp) (cls : Value) (d : Option Addr), u = .ref a ∧ Inv Y pins σ H' sI ∧
      (∀ b o, sI.heap.get? b = some o → b ∉ frs Y.stack → B.get? b = some o) ∧ sI.heap.UpToSlots s'.heap ∧ HandSPX.FlyingZ B Y.stack a (Zc cls d) s'.heap ∧
      H' a = none ∧ s'.os = sI.os ∧ AllBare s'.gens ∧ E cls d H' := by
  obtain ⟨a, B, H', cls, d, rfl, fl, hok, ub, na, os, ag, hE⟩ := c
  have st : B.StaysIn s'.heap := fl.1
  obtain ⟨G, inG, outG⟩ := restrict s'.heap fun b => (B.get? b).isSome || decide (b ∈ frs Y.stack)
  have gB : ∀ b o, B.get? b = some o → G.get? b = some o := fun b o e =>
    (inG b (by simp [e])).trans (st b o e)
  have gF : ∀ b, b ∈ frs Y.stack → G.get? b = s'.heap.get? b := fun b hb => inG b (by simp [hb])
  have og : ∀ b o, G.get? b = some o → s'.heap.get? b = some o ∧ ((∃ o', B.get? b = some o') ∨ b ∈ frs Y.stack) := by
    intro b o e
    cases q : ((B.get? b).isSome || decide (b ∈ frs Y.stack)) with
    | false =>
      rw [outG b q] at e
      cases e
    | true =>
      refine ⟨(inG b q).symm.trans e, ?_⟩
      rcases Bool.or_eq_true_iff.mp q with h | h
      · exact .inl (Option.isSome_iff_exists.mp h)
      · exact .inr (of_decide_eq_true h)
  have U : Un (frs Y.stack) [] H H' s.heap G :=
    { keep := fun b o e n hb _ => gB b o (ub.keep b o e n hb)
      slot := fun b o e n hb _ => by
        obtain ⟨sl, q⟩ := ub.slot b o e hb
        exact ⟨sl, (gF b hb).trans q⟩
      free := fun b o e n _ => ub.free b o e n
      there := fun b o e _ => by
        by_cases hb : b ∈ frs Y.stack
        · obtain ⟨sl, q⟩ := ub.slot b o e hb
          exact ⟨_, (gF b hb).trans q⟩
        · obtain ⟨o', q⟩ := ub.there b o e hb
          exact ⟨o', gB b o' q⟩
      tups := ub.tups
      frzs := ub.frzs
      tbls := ub.tbls }
  refine ⟨a, B, { s with heap := G, gens := s'.gens, drawn := s'.drawn, toks := s'.toks }, H', cls, d, rfl,
    I.call (ch := []) U (hok.kept gB) ag (fun _ z => nomatch z), fun b o e hb => ?_, Heap.UpToSlots.of_keeps fun b o e => (og b o e).1, fl, na, os, ag, hE⟩
  obtain ⟨e', h⟩ := og b o e
  rcases h with ⟨o', q⟩ | h
  · have z := st b o' q
    rw [e'] at z
    cases z
    exact q
  · exact absurd h hb

/-- the block's wish about what its element lets out -/
abbrev blkWish (X : Cx) (ce : Env) : Value → Shared → Prop :=
  notedBy (model X.prog X.w) X.A ce (CompFails (model X.prog X.w) X.A X.xe ce)

theorem blk_passes {X : Cx} {W : WX} {E : XK} {pins : List (Addr × Obj)} {σ : L2.St} {s3 : Shared} {H3 : Hp} {scope : Scope} {cl : List (Str × Addr)} {fp : List Addr}
    (hs : X.stack = X.env :: X.outer) (hf : X.env.frame = some X.env.locals) (tk : Takes X W) (hW : ∀ cls d H, E cls d H → W cls d σ H) (I3 : Inv X pins σ H3 s3)
    (f3 : ∀ b ∈ fp, FpOk X pins H3 b) :
    Passes (L2.CX X.prog X.w) ((X.blk s3 H3 scope (compEnvC scope cl s3.heap.objs.size X.env) fp).wish (blkWish X (compEnvC scope cl s3.heap.objs.size X.env))) E := by
  intro pins' σ' H' s u s' I c
  obtain ⟨a, B, sI, H', cls, d, rfl, J, nb, up, fl, na, os, ag, hE⟩ := fly_call I c
  have hfr : X.A.frames = some (X.env :: X.outer) := by rw [I3.ok.frames, hs]
  have fl : HandSPX.FlyingZ B (X.env :: X.outer) a (Zc cls d) s'.heap := by rw [← hs]; exact fl
  have nb : ∀ b o, sI.heap.get? b = some o → b ∉ frs X.stack → B.get? b = some o := nb
  show wpAny _ _ (noteFrame (.ref a) (compEnvC scope cl s3.heap.objs.size X.env)) _ _ _
  rw [noteFrame_env (.ref a) (show (compEnvC scope cl s3.heap.objs.size X.env).frame = X.env.frame from rfl)]
  refine HandSPX.looks_onZ Zc.steady hfr hf fl fun h1 held up1 => ?_
  have loc : (compEnvC scope cl s3.heap.objs.size X.env).locals = s3.heap.objs.size := rfl
  obtain ⟨m, hn, _⟩ := J.loc
  have hn : sI.heap.Ns s3.heap.objs.size m := hn
  have frJ : H' s3.heap.objs.size = none := J.free
  -- the block's own frame is none of the stack's
  have nfr : s3.heap.objs.size ∉ frs X.stack := fun hm => by
    obtain ⟨_, o, ho, _⟩ := I3.stack.mem hm
    exact absurd (Heap.lt_size ho) (Nat.lt_irrefl _)
  have hn1 : h1.Ns s3.heap.objs.size m := Heap.Ns.upToSlots hn fun b o e nv => (up.trans up1) b o e nv
  refine ⟨m, hn1, fun h2 m2 hn2 sb2 => ?_⟩
  have sb2 : Heap.SameBut s3.heap.objs.size h1 h2 := sb2
  obtain ⟨stB, bN, ff, tr⟩ := held
  obtain ⟨B2, inB, outB⟩ := restrict B fun b => decide (b ≠ s3.heap.objs.size)
  have b2 : ∀ b o, B2.get? b = some o → b ≠ s3.heap.objs.size ∧ B.get? b = some o := fun b o e => by
    by_cases hb : b = s3.heap.objs.size
    · rw [outB b (by simp [hb])] at e
      cases e
    · exact ⟨hb, (inB b (by simp [hb])).symm.trans e⟩
  have bn : ∀ b, B.get? b = none → B2.get? b = none := fun b e => by
    cases q : B2.get? b with
    | none => rfl
    | some o =>
      rw [(b2 b o q).2] at e
      cases e
  have st2 : B2.StaysIn h2 := fun b o e => (sb2.2 b (b2 b o e).1).trans (stB b o (b2 b o e).2)
  have ff1 : h1.FunFrames B2 (X.env :: X.outer) := funFrames_none ff fun L hL => bn L (ff.mem hL).1
  have ff2 : h2.FunFrames B2 (X.env :: X.outer) := Heap.FunFrames.sameBut sb2 hn2 ff1
  obtain ⟨oe, vs, T, oT, ts, he, hz, hd, h1e, hnT, hTe, hT, hdT, h3⟩ := tr
  have dict1 : ∀ {b : Addr} {o : Obj} {vs : Array Value}, h1.get? b = some o → o.data = .fields vs → b ≠ s3.heap.objs.size := by
    intro b o vs e ed z
    obtain ⟨o1, es1, ep1, e1, d1, _⟩ := hn1
    rw [z, e1] at e
    cases e
    rw [d1] at ed
    cases ed
  have ae := dict1 he hd
  have aT := dict1 hT hdT
  have he2 := (sb2.2 a ae).trans he
  have tr2 : HandSPX.TracedZ h2 B2 a (Zc cls d) (rawInt X.env.locals) :=
    ⟨oe, vs, T, oT, ts, he2, hz, hd, h1e, bn T hnT, hTe, (sb2.2 T aT).trans hT, hdT, h3⟩
  unfold PySem.passOn
  refine wpAny_bind (wpAny_field he2 hd h1e ?_)
  rw [if_neg (show ¬ ((Value.ref T == Value.none) = true) from by simp)]
  refine wpAny_bind ?_
  rw [show (compEnvC scope cl s3.heap.objs.size X.env).frame = some X.env.locals from hf]
  refine HandSPX.setFlight_anyZ st2 ff2 tr2 fun h4 st4 ff4 tr4 up4 => wpAny_throw (tk _ _ ?_)
  -- the state without the exception and without the block's frame
  obtain ⟨G, inG, outG⟩ := restrict sI.heap fun b => decide (b ≠ s3.heap.objs.size)
  have gk : ∀ b o, b ≠ s3.heap.objs.size → sI.heap.get? b = some o → G.get? b = some o := fun b o hb e => (inG b (by simp [hb])).trans e
  have gi : ∀ b o, G.get? b = some o → b ≠ s3.heap.objs.size ∧ sI.heap.get? b = some o := fun b o e => by
    by_cases hb : b = s3.heap.objs.size
    · rw [outG b (by simp [hb])] at e
      cases e
    · exact ⟨hb, (inG b (by simp [hb])).symm.trans e⟩
  have I4 : Inv X pins σ H' sI := I3.call' (ch := fp) J.os J.base J.hok J.bare fun b hb => ⟨(f3 b hb).2.2.2.1, (f3 b hb).2.1, (f3 b hb).2.2.2.2.1, (f3 b hb).2.2.2.2.2⟩
  obtain ⟨g0, g1, g2, g3, g4, g5⟩ := I3.fpOk (b := s3.heap.objs.size) (Nat.le_refl _) frJ
  have I5 := I4.turned (t' := sI.toks) (h' := G) (it := s3.heap.objs.size) (fun b o hb e => gk b o hb e) g0 g1 g3 g4 g5
  refine ⟨a, B2, { sI with heap := G, toks := sI.toks }, pins, σ, H', cls, d, rfl, I5, fun b o e hb => ?_, fun b o e nv => ?_, .inr (.inr ?_), na, os, ag, hW cls d H' hE⟩
  · obtain ⟨h, e'⟩ := gi b o e
    exact (inB b (by simp [h])).trans (nb b o e' hb)
  · obtain ⟨h, e'⟩ := gi b o e
    obtain ⟨sl, q⟩ := (up.trans up1) b o e' nv
    exact up4 b { o with slots := sl } ((sb2.2 b h).trans q) nv
  · rw [hs]
    exact ⟨st4, bn a bN, ff4, tr4⟩

section
variable {X : Cx}
/-- [elt for target in iter], the element a call that may raise; as a value -/
theorem pe_lcx {W : WX} {elt tg iter : Expr} {scope : Scope} {own : List (Str × Nat)} {pos : Pos} {wi : TI} {g : TG} {te : XK → TE} (hst : X.stack = X.env :: X.outer) (hf : X.env.frame = some X.env.locals)
    (hc : X.calm = true) (tk : Takes X W) (hN : X.N.Nodup) (hi : PI X tg iter wi) (ok : BlkOk X.N X.env.scope scope own)
    (hg : ∀ (s : Shared) (H : Hp) (C : Addr) (cl : List (Str × Addr)) (fp : List Addr), PG (X.blk s H scope (compEnvC scope cl C X.env) fp) tg g)
    (he : ∀ (s : Shared) (H : Hp) (C : Addr) (cl : List (Str × Addr)) (fp : List Addr) (xe : Value → Shared → Prop) (Ec : XK),
      Passes (L2.CX X.prog X.w) ((X.blk s H scope (compEnvC scope cl C X.env) fp).wish xe) Ec → PE ((X.blk s H scope (compEnvC scope cl C X.env) fp).wish xe) elt (te Ec))
    (hs : ∀ x, foldedSetIterable iter X.env x = pure x := by intro _; rfl) :
    PE X (.ListComp elt [⟨tg, iter, [], 0⟩] scope pos) (fun σ H Q => tLc wi g tYes (te (fun cls d H => W cls d σ H)) (own.map (·.2)) σ H Q) := by
  refine ⟨fun pins s σ H Q I h => ?_⟩
  rw [eval_ListComp]
  have hfree : ∀ y ∈ scope.names, y.2 = .free → ∃ c, X.env.cells.lookup y.1 = some c := fun y hy e => by
    rcases ok.free y hy e with k | k
    · exact I.ok.has _ (.inl k)
    · exact I.ok.has _ (.inr k)
  refine comprehension_at rfl hs (closure_ok hfree) ok.kind (fun y hy e => by rw [ok.uniq y hy, e]) ?_
  refine thn (hi.run pins s σ H _ I h) fun xv s1 hx => thn hx fun itv s2 h2 => ?_
  obtain ⟨it, fp, tn, J, H2, rfl, I2, T, st2, f2, q⟩ := h2
  refine wpAny_newObj_type (newEnv_comp ?_) (by show 0 ≤ sizeLine; decide)
  generalize hD : s2.heap.objs.size = D
  have hDn : H2 D = none := I2.hok.fresh (Nat.le_of_eq hD)
  obtain ⟨Wt, ⟨m0, w0⟩, turn⟩ := q D hDn
  generalize hs3 : ({ s2 with heap := s2.heap.push { cls := .type "list", data := .seq ([] : List Value).toArray } } : Shared) = s3
  have h3 : s3.heap = s2.heap.push { cls := .type "list", data := .seq ([] : List Value).toArray } := by rw [← hs3]
  have k23 : ∀ b o, s2.heap.get? b = some o → s3.heap.get? b = some o := fun b o e => by
    rw [h3]
    exact Heap.get?_push_of_some _ e
  have I3 : Inv X pins σ (upd H2 D (.lst [])) s3 := by
    rw [← hs3]
    refine I2.laid (t' := s2.toks) (fun b o e => Heap.get?_push_of_some _ e) (Nat.le_of_eq hD) ⟨Nat.zero_le _, [], 0, .nil, ?_⟩
    rw [← hD]
    exact Heap.get?_push_size _ rfl
  have sz : ∀ b ∈ fp, b < s2.heap.objs.size := fun b hb => by
    obtain ⟨o, e, _⟩ := T.obj _ _ st2 b hb
    exact Heap.lt_size e
  have f3 : ∀ b ∈ fp, FpOk X pins (upd H2 D (.lst [])) b ∧ b < s3.heap.objs.size := fun b hb => by
    have hlt := sz b hb
    refine ⟨⟨?_, (f2 b hb).2⟩, ?_⟩
    · rw [upd_ne (by rw [← hD]; exact Nat.ne_of_lt hlt)]
      exact (f2 b hb).1
    · rw [h3, Heap.size_push]
      exact Nat.lt_succ_of_lt hlt
  have st3 : tn 0 s3.heap := T.keep _ _ _ st2 fun b _ o e => k23 b o e
  have I4 := block_start I3 ok hN f3
  generalize hcl : cellsFrom (s3.heap.objs.size + 1) scope.names (cloFrom X.env.cells scope.names []) = cl at I4
  have pg := hg s3 (upd H2 D (.lst [])) s3.heap.objs.size cl fp
  have ps := blk_passes (scope := scope) (cl := cl) (E := fun cls d H => W cls d σ H) hst hf tk (fun _ _ _ z => z) I3 (fun b hb => (f3 b hb).1)
  have pe := he s3 (upd H2 D (.lst [])) s3.heap.objs.size cl fp _ _ ps
  show codeAny _ _ (.compStart (.ListComp elt [⟨tg, iter, [], 0⟩] scope pos) 0 (.ref it) (.ref D) (compEnvC scope cl s3.heap.objs.size X.env))
    (compEnds (model X.prog X.w) X.A X.xe none (EP X pins σ Q) (.ref D) (compEnvC scope cl s3.heap.objs.size X.env))
    { s3 with heap := pushCells (s3.heap.push { cls := .type "dict", data := .dict #[] }) scope.names }
  have nfp : ∀ b ∈ fp, (upd H2 D (.lst [])) b = none := fun b hb => (f3 b hb).1.1
  generalize hce : compEnvC scope cl s3.heap.objs.size X.env = ce at I4 pg pe ⊢
  have cL : ce.locals = s3.heap.objs.size := by subst hce; rfl
  generalize hH3 : upd H2 D (.lst []) = H3 at I3 I4 pg pe w0 nfp f3
  generalize hs4 : ({ s3 with heap := pushCells (s3.heap.push { cls := .type "dict", data := .dict #[] }) scope.names } : Shared) = s4 at I4 ⊢
  have st4 : tn 0 s4.heap := T.keep _ _ _ st3 fun b _ o e => by
    rw [← hs4]
    exact pushCells_keeps _ _ _ _ (Heap.get?_push_of_some _ e)
  have stat : ∀ {σ' : L2.St} {H' : Hp} {s' : Shared}, Inv (X.blk s3 H3 scope ce fp) [] σ' H' s' → (∀ b ∈ fp, H' b = none) → ∀ b ∈ fp, FpOk (X.blk s3 H3 scope ce fp) [] H' b := fun {σ' H' s'} I' hn b hb =>
    ⟨hn b hb, (I'.ok.exf b hb).1, I'.ok.exfs b hb, .inl hb, fun x c e => (I'.ok.exf b hb).2 x c e, fun p hp => nomatch hp⟩
  have loop : codeAny (model X.prog X.w) X.A (.compLoop (.ListComp elt [⟨tg, iter, [], 0⟩] scope pos) 0 (.ref it) (.ref D) ce) (compEnds (model X.prog X.w) X.A X.xe none (EP X pins σ Q) (.ref D) ce) s4 := by
    refine compLoop_any (fun n s' => ∃ i H', Inv (X.blk s3 H3 scope ce fp) [] (wipe σ (own.map (·.2))) H' s' ∧ tn i s'.heap ∧ (∀ b ∈ fp, H' b = none) ∧ Wt i n H') ?_ m0 ⟨0, H3, I4, st4, nfp, w0⟩
    rintro n s5 ⟨i, H5, I5, st5, n5, w5⟩
    rcases turn i n H5 w5 with ⟨stop, qq⟩ | ⟨go, Nx, hNx, step⟩
    · refine thnF (T.done (X.blk s3 H3 scope ce fp) rfl rfl rfl hc i [] s5 _ H5 (fun _ _ => False) I5 (stat I5 n5) st5 stop) fun r s6 hh => ?_
      obtain ⟨rfl, I6⟩ := hh
      have I7 : Inv X pins σ H5 s6 := I3.call' (ch := fp) I6.os I6.base I6.hok I6.bare fun b hb =>
        ⟨(f3 b hb).1.2.2.2.1, (f3 b hb).1.2.1, (f3 b hb).1.2.2.2.2.1, (f3 b hb).1.2.2.2.2.2⟩
      have nC : H5 s3.heap.objs.size = none := by
        have z : H5 ce.locals = none := I6.free
        rw [cL] at z
        exact z
      obtain ⟨m, hn, _⟩ := I6.loc
      refine ⟨m, hn, fun h' sb => ?_⟩
      obtain ⟨g0, g1, g2, g3, g4, g5⟩ := I3.fpOk (Nat.le_refl _) nC
      have sb : Heap.SameBut s3.heap.objs.size s6.heap h' := by rw [← cL]; exact sb
      exact ⟨.ref D, H5, I7.turned (t' := s6.toks) (fun b o hb e => (sb.2 b hb).trans e) g0 g1 g3 g4 g5, rfl, qq⟩
    · refine thnF (T.item (X.blk s3 H3 scope ce fp) rfl rfl rfl hc i [] s5 _ H5 (fun _ _ => False) I5 (stat I5 n5) st5 go) fun r s6 hh => ?_
      obtain ⟨u, rfl, h6⟩ := hh
      refine thnF h6 fun _ s7 hh => ?_
      obtain ⟨x, H7, I7, r7, y7, st7, n7⟩ := hh
      have I7' := I7.pinned (stat I7 n7) (T.obj _ _ st7)
      refine thnF (pg.run _ s7 _ H7 x u _ I7' r7 (step x H7 y7)) fun _ s8 hh => ?_
      obtain ⟨σ8, H8, I8, hw8, q8⟩ := hh
      refine wpAny_tests_nil ?_
      have q9 : te (fun cls d H => W cls d σ H) σ8 H8 fun y H4 => ∃ acc, H4 D = some (.lst acc) ∧ acc.length < sizeLine ∧ Nx (upd H4 D (.lst (acc ++ [y]))) := by
        have z := q8
        simp only [tYes, if_true] at z
        exact z
      simp only [if_true]
      refine wpAny_mono (pe.run _ s8 σ8 H8 _ (I8.wish _) q9) (fun z s10 hh => ?_) (fun e s10 hh => ?_)
      · obtain ⟨yv, H10, I10', r10, acc, hD10, hz10, nx⟩ := hh
        have I10 := I10'.unwish
        refine app_ok (X := X.blk s3 H3 scope ce fp) I10 hD10 hz10 r10 fun s11 I11 => ?_
        obtain ⟨m', hm, w'⟩ := hNx _ nx
        have pin' : ∀ b ∈ fp, ∀ o, s7.heap.get? b = some o → s11.heap.get? b = some o ∧ upd H10 D (.lst (acc ++ [yv])) b = none := fun b hb o e =>
          let z := I11.pin (b, o) (List.mem_append_right _ (List.mem_append_right _ (mem_pinsAt hb e)))
          ⟨z.1, z.2.1⟩
        have hl : (wipe σ (own.map (·.2))).length = σ8.length := by rw [← hw8, wipe_length]
        refine ⟨m', hm, i + 1, _, (I11.unpinned (pins := [])).weak hl (fun j v e => ?_), T.keep _ _ _ st7 fun b hb o e => (pin' b hb o e).1, fun b hb => ?_, w'⟩
        · rw [← hw8] at e
          exact (wipe_some e).1
        · obtain ⟨o, e, _⟩ := T.obj _ _ st7 b hb
          exact (pin' b hb o e).2
      · exact hh
  exact codeAny_compStart_list loop (T.self X.A 0 _ _ _ st4 loop)
end
end GR

end

section
set_option Elab.async false
set_option linter.all false
set_option maxRecDepth 100000
set_option maxHeartbeats 2000000
/-! own exceptions over Exception, whose __init__ stores fields -/
namespace GR
open PySem PySem.Spec PyProof.Rows L2
abbrev exTail : List Value := [.type "Exception", .type "BaseException", .type "object"]
/-- what the written part says of such a class -/
structure XcC (K : PySem.W.Frag) (C : Addr) : Prop where
  cls : ∃ nm q N bs sn sub ab col dd k0 k1 k2 k3 k5, K.lookup C = some (excClassObj nm q C N bs exTail true sn sub ab col dd k0 k1 k2 k3 k5 "Exception.__new__")
  sa : PySem.W.findIn K (.ref C) "__setattr__" = some (some (.builtin "object.__setattr__"))
  exC : PySem.W.subIn K (.ref C) (.type "BaseException") = some true
  tyC : PySem.W.typeIn K (.ref C) = some (.type "type")
  kC : PySem.W.keepIn K (.ref C) = true
theorem XcC.at {K : PySem.W.Frag} {C : Addr} (T : XcC K C) : ∃ cd, PySem.W.clsIn K C = some cd ∧ cd.hasDict = true ∧ PySem.W.excOver K C exTail = true := by
  obtain ⟨nm, q, N, bs, sn, sub, ab, col, dd, k0, k1, k2, k3, k5, hC⟩ := T.cls
  have e : PySem.W.clsIn K C = some { name := nm, bases := bs, mro := .ref C :: exTail, ns := N, qualname := q, hasDict := true, slotNames := sn, subclasses := sub, abstract := ab, collection := col, hasDel := false } := by
    unfold PySem.W.clsIn
    rw [hC]
  refine ⟨_, e, rfl, ?_⟩
  unfold PySem.W.excOver
  rw [e]
  show (C == C && PySem.W.excTail exTail exTail) = true
  rw [beq_self_eq_true]
  decide +kernel
section
variable {prog : Program} {w : World} {A : Around} {E : Value → Shared → Prop} {R : Result → Shared → Prop} {hp : Heap} {g : Array GenState} {d : Drawn} {t : Nat} {os : OsState}
theorem taker0 {K : PySem.W.Frag} {C : Addr} {name : Str} (ha : PySem.W.findIn K (.ref C) name = some none) : PySem.W.takerIn K C name = some none := by
  unfold PySem.W.takerIn
  rw [ha]
  rfl
theorem store_first {K : PySem.W.Frag} {name : Str} {tk : Tok} {v : Value} {x C : Addr} {fv : Array Value} (T : XcC K C)
    (X : K.In hp) (hx : hp.get? x = some { cls := .ref C, data := .fields fv }) (ha : PySem.W.findIn K (.ref C) name = some none)
    (hq : ∀ h' tk' dx, (∀ b o, b ≠ x → hp.get? b = some o → h'.get? b = some o) → hp.objs.size ≤ dx → dx ≠ x → h'.get? x = some { cls := .ref C, dict := some dx, data := .fields fv } →
      h'.Ns1 dx (fun y => if y = name then some v else none) → R (.ok (.ret .none)) ⟨h', g, d, tk', os⟩) :
    codeAny (model prog w) A (.call (.builtin "object.__setattr__") ⟨[.ref x, .str name tk, v], []⟩) R ⟨hp, g, d, t, os⟩ := by
  obtain ⟨cd, hcd, hh, hov⟩ := T.at
  have I : PySem.W.InstAt hp x { cls := .ref C, data := .fields fv } C none := ⟨hx, rfl, rfl, trivial⟩
  have hxs : x ≠ hp.objs.size := Nat.ne_of_lt (Heap.lt_size hx)
  have hcls : PySem.W.Looks (model prog w) hp (classData C) cd := PySem.W.looks_clsIn X hcd
  refine PySem.W.osa_openX (s := ⟨hp, g, d, t, os⟩) PySem.F.store_Exception X I hov (taker0 ha) fun b => ?_
  show wpAny _ _ (Builtin.ObjectAttr.storeInOwnDict (.ref x) (.ref C) (.str name tk) name v b) _ _ _
  obtain ⟨nm, bs, mro, ns, qn, hd, sn, sb, ab, col, del⟩ := cd
  dsimp only at hh
  subst hh
  unfold Builtin.ObjectAttr.storeInOwnDict Builtin.ObjectAttr.ownDictForStores
  repeat (first | with_reducible refine HandSPX.store_in_new ?_ ?_ | with_reducible refine wpAny_loadPart_at hx ?_ | with_reducible refine hcls.at ?_ | wp_step)
  · exact ⟨_, #[], _, (Heap.get?_update_ne _ _ _ _ hxs.symm).trans (Heap.get?_push_at rfl rfl), rfl, fun e he => absurd he (by simp), fun _ => rfl⟩
  · intro h' tk' hn' hs
    have hx1 := Heap.get?_push_of_some (h := hp) { cls := .type "dict", data := .dict #[] } hx
    refine hq h' tk' hp.objs.size (fun b o hb ho => ?_) (Nat.le_refl _) hxs.symm ?_ hn'
    · exact (hs.2 b (Nat.ne_of_lt (Heap.lt_size ho))).trans ((Heap.get?_update_ne _ _ _ _ hb).trans (Heap.get?_push_of_some _ ho))
    · exact (hs.2 x hxs).trans (Heap.get?_update_self _ hx1 rfl)
theorem store_more {K : PySem.W.Frag} {name : Str} {tk : Tok} {v : Value} {x C dx : Addr} {fv : Array Value} {m0 : Str → Option Value} {nl : List Str} (T : XcC K C)
    (X : K.In hp) (hx : hp.get? x = some { cls := .ref C, dict := some dx, data := .fields fv }) (hns : hp.Ns1 dx m0) (hw : Within m0 nl) (hz : nl.length ≤ 1000) (ha : PySem.W.findIn K (.ref C) name = some none)
    (hq : ∀ h' tk', (∀ b o, b ≠ dx → hp.get? b = some o → h'.get? b = some o) → h'.Ns1 dx (fun y => if y = name then some v else m0 y) → R (.ok (.ret .none)) ⟨h', g, d, tk', os⟩) :
    codeAny (model prog w) A (.call (.builtin "object.__setattr__") ⟨[.ref x, .str name tk, v], []⟩) R ⟨hp, g, d, t, os⟩ := by
  obtain ⟨cd, hcd, hh, hov⟩ := T.at
  obtain ⟨oD, esD, epD, hoD, hdD, _⟩ := hns.count hw
  have I : PySem.W.InstAt hp x { cls := .ref C, dict := some dx, data := .fields fv } C (some oD) := ⟨hx, rfl, rfl, hoD⟩
  have hcls : PySem.W.Looks (model prog w) hp (classData C) cd := PySem.W.looks_clsIn X hcd
  refine PySem.W.osa_openX (s := ⟨hp, g, d, t, os⟩) PySem.F.store_Exception X I hov (taker0 ha) fun b => ?_
  show wpAny _ _ (Builtin.ObjectAttr.storeInOwnDict (.ref x) (.ref C) (.str name tk) name v b) _ _ _
  obtain ⟨nm, bs, mro, ns, qn, hd, sn, sb, ab, col, del⟩ := cd
  dsimp only at hh
  subst hh
  unfold Builtin.ObjectAttr.storeInOwnDict Builtin.ObjectAttr.ownDictForStores
  repeat (first | with_reducible refine OEX.store_in_old hns hw hz ?_ | with_reducible refine wpAny_loadPart_at hx ?_ | with_reducible refine hcls.at ?_ | wp_step)
  intro h' tk' hn' hs
  exact hq h' tk' (fun b o hb ho => (hs.2 b hb).trans ho) hn'
end

section
variable {X : Cx} {pins : List (Addr × Obj)} {σ : L2.St} {H : Hp} {s : Shared} {a C dx : Addr} {f : Str} {y : V} {u : Value} {fs : List (Str × V)} {Q : Unit → Shared → Prop} {E : Value → Shared → Prop} {A : Around}
/-- the first field of an exception in the making -/
theorem put_first (T : XcC X.K C) (I : Inv X pins σ H s) (e : H a = some (exo a C none)) (hno : PySem.W.findIn X.K (.ref C) f = some none) (ry : RelV y u)
    (h : ∀ dx s', H dx = none → dx ≠ a → Inv X pins σ (upd (upd H dx (exd dx [(f, y)])) a (exo a C (some dx))) s' → Q () s') :
    wpAny (model X.prog X.w) A (setAttr (.ref a) f u) Q E s := by
  obtain ⟨t1, ho⟩ := exo_at I.hok e
  obtain ⟨hp, g, d, t, os⟩ := s
  refine PySem.W.set_plain I.kIn (ox := { cls := .ref C, dict := none, data := .fields #[.ref t1, .none, .none, .none, .bool false, .none] }) (od := none) ⟨ho, rfl, rfl, trivial⟩ T.sa ?_
  refine store_first T I.kIn ho hno fun h' tk' dx k dn dne hx hn => ?_
  have nd : H dx = none := I.hok.fresh dn
  have old : ∀ {b : Addr} {o : Obj}, hp.get? b = some o → b ≠ dx := fun q => Nat.ne_of_lt (Nat.lt_of_lt_of_le (Heap.lt_size q) dn)
  have na : ∀ {b : Addr}, H b = none → b ≠ a := fun n z => by
    rw [z, e] at n
    cases n
  -- what stood in H at b, another thing than the exception, still stands
  have up2 : ∀ {b : Addr} {o : HO}, H b = some o → exo a C none ≠ o → upd (upd H dx (exd dx [(f, y)])) a (exo a C (some dx)) b = some o := fun {b o} q z => by
    rw [upd_ne (at_ne e q z), upd_ne (ne_of_none q nd)]
    exact q
  have U : Un X.fs [] H (upd (upd H dx (exd dx [(f, y)])) a (exo a C (some dx))) hp h' :=
    { keep := fun b o q n _ _ => k b o (na n) q
      slot := fun b o q n _ _ => ⟨o.slots, k b o (na n) q⟩
      free := fun b o q n _ => by
        rw [upd_ne (na n), upd_ne (old q)]
        exact n
      there := fun b o q _ => by
        by_cases hb : b = a
        · exact ⟨_, hb ▸ hx⟩
        · exact ⟨o, k b o hb q⟩
      tups := fun b xs q => up2 q exo_tup
      frzs := fun b o v q => up2 q exo_frz
      tbls := fun b ps q => ⟨#[], by rw [up2 q exo_tbl]; simp⟩ }
  refine h dx _ nd dne (I.un (t' := tk') U fun b o q => ?_)
  by_cases hb : b = a
  · subst hb
    rw [upd_same] at q
    cases q
    exact exo_ok hx
  · rw [upd_ne hb] at q
    by_cases hd : b = dx
    · subst hd
      rw [upd_same] at q
      cases q
      exact exd_ok hn (relO_put (fs := []) ry fun g => True.intro)
    · rw [upd_ne hd] at q
      refine (I.hok b o q).stay (fun c v hc z => k c v ?_ z) (fun c hc => up2 hc exo_own) (fun c xs hc => up2 hc exo_tup)
      rcases hc with hc | hc
      · rw [hc]
        exact hb
      · exact at_ne e hc exo_own
/-- a further one -/
theorem put_more (T : XcC X.K C) (I : Inv X pins σ H s) (e : H a = some (exo a C (some dx))) (ed : H dx = some (exd dx fs)) (hl : fs.length ≤ 900) (hno : PySem.W.findIn X.K (.ref C) f = some none) (ry : RelV y u)
    (h : ∀ s', Inv X pins σ (upd H dx (exd dx ((f, y) :: fs))) s' → Q () s') : wpAny (model X.prog X.w) A (setAttr (.ref a) f u) Q E s := by
  obtain ⟨t1, ho⟩ := exo_at I.hok e
  obtain ⟨mA, hns, rel⟩ := exd_at I.hok ed
  have hw := within_of rel
  obtain ⟨hp, g, d, t, os⟩ := s
  obtain ⟨oD, _, _, hoD, _, _⟩ := hns.count hw
  refine PySem.W.set_plain I.kIn (ox := { cls := .ref C, dict := some dx, data := .fields #[.ref t1, .none, .none, .none, .bool false, .none] }) (od := some oD) ⟨ho, rfl, rfl, hoD⟩ T.sa ?_
  refine store_more T I.kIn ho hns hw (by rw [List.length_map]; omega) hno fun h' tk' k hn => ?_
  have hd : ∃ o, h'.get? dx = some o := by
    obtain ⟨o, _, _, e', _⟩ := hn
    exact ⟨o, e'⟩
  refine h _ (I.write (t' := tk') (x := dx) (e := dx) (o := exd dx ((f, y) :: fs)) ?_ (.inl rfl) k hd (exd_ok hn (relO_put ry rel)))
  rw [ed]
  exact True.intro
end
/-- self.f = e in the __init__ of such a class -/
def tXst (K : PySem.W.Frag) (f : Str) (to te : TE) : TS := fun D σ H => te σ H fun y H1 => to σ H1 fun x H2 =>
  ∃ a C : Addr, x = .ref a ∧ XcC K C ∧ PySem.W.findIn K (.ref C) f = some none ∧
    ((H2 a = some (exo a C none) ∧ ∀ dx, H2 dx = none → dx ≠ a → D.nx σ (upd (upd H2 dx (exd dx [(f, y)])) a (exo a C (some dx)))) ∨
      ∃ (dx : Addr) (fs : List (Str × V)), H2 a = some (exo a C (some dx)) ∧ H2 dx = some (exd dx fs) ∧ fs.length ≤ 900 ∧ D.nx σ (upd H2 dx (exd dx ((f, y) :: fs))))
section
variable {X : Cx} {o e : Expr} {es : List Expr} {to te : TE} {ta : TA} {f : Str} {p p' pos : Pos}
theorem ps_xst (ho : PE X o to) (he : PE X e te) (hs : swapsWith e (some (.Attribute o f p')) pos.line X.env = pure false := by rfl) :
    PS X (.Assign [.Attribute o f p'] e pos) (tXst X.K f to te) := by
  refine ⟨fun pins s σ H D I h => plainObj_wpAny_Assign_Attribute (thn (he.run pins s σ H _ I h) fun v s1 hv => ?_) hs⟩
  obtain ⟨y, H1, I1, r1, q1⟩ := hv
  refine thn (ho.run pins s1 σ H1 _ I1 q1) fun u s2 hu => ?_
  obtain ⟨x, H2, I2, r2, a, C, rfl, T, hno, q⟩ := hu
  obtain rfl : u = Value.ref a := r2
  rcases q with ⟨ea, q⟩ | ⟨dx, fs, ea, ed, hl, q⟩
  · exact put_first T I2 ea hno r1 fun dx s' n ne J => ⟨σ, _, J, q dx n ne⟩
  · exact put_more T I2 ea ed hl hno r1 fun s' J => ⟨σ, _, J, q⟩
/-- C(e, ..), C's own __init__ keeping sp -/
theorem pmk_xc {CX : CXT} {x : Str} {C fI : Addr} {k : Nat} {fd : FuncData} {ps : List Str} {sp : Sp} (T : XcC X.K C) (iC : PySem.W.findIn X.K (.ref C) "__init__" = some (some (.ref fI)))
    (tI : PySem.W.typeIn X.K (.ref fI) = some (.type "function")) (F1 : FnOk X.prog X.w X.K X.mg X.base CX k fI fd ps sp) (hr : Room (k + 1) X.A) (hb : Binds X.K fd ps []) (hx : Passes CX X (fun _ _ _ => False))
    (hg : Gl X x) (hm : X.mg x = some (.ref C)) (ha : PA X (e :: es) ta)
    (hdb : (x == ("__debug__" : Str)) = false := by decide) (he : starEach (e :: es) X.env = (false, eval e X.env) :: starEach es X.env := by rfl) (hpl : (backTo pos (starEach es X.env)).any (·.1) = false := by rfl) :
    PMk X (.Call (.Name x p) (e :: es) [] pos) (tMkO C sp [] ta) := by
  intro pins s σ H Q I h
  obtain ⟨nm, q, N, bs, sn, sub, ab, col, dd, k0, k1, k2, k3, k5, hC⟩ := T.cls
  refine wpAny_Call_Name_kw (ld_glob I hg hm ?_ hdb)
  refine PySem.W.callWith_K (h₀ := X.base) I.ok.mod.kin T.kC (thn (ha.run pos pins s σ H _ I h) fun us s1 hh => ?_) he hpl
  obtain ⟨vs, H1, I1, r1, hz, q1⟩ := hh
  refine ⟨I1.kIn, ?_⟩
  show wpAny _ _ (call (.ref C) us) _ _ _
  obtain ⟨hp, g, dr, tk, os⟩ := s1
  generalize hA : hp.objs.size + 1 = A0
  have hsz : hp.objs.size ≤ A0 := by
    rw [← hA]
    exact Nat.le_succ _
  have hq := q1 A0 (I1.hok.fresh hsz)
  generalize hH2 : (hp.push (PySem.W.kdv_tup us)).push (HandSPX.excO C hp.objs.size) = hp2
  have kk : ∀ b o, hp.get? b = some o → hp2.get? b = some o := fun b o e => by
    rw [← hH2]
    exact Heap.get?_push_of_some _ (Heap.get?_push_of_some _ e)
  have hget : hp2.get? A0 = some (HandSPX.excO C hp.objs.size) := by
    rw [← hH2, ← hA]
    heap_get
  have I2 : Inv X pins σ (upd H1 A0 (exo A0 C none)) ⟨hp2, g, dr, tk, os⟩ := I1.laid (t' := tk) (a := A0) (o := exo A0 C none) (h' := hp2) kk hsz (exo_ok hget)
  have r2 : Vals (V.ref A0 :: (vs ++ [])) (Value.ref A0 :: us) := by
    rw [List.append_nil]
    exact .cons rfl r1
  have hl : (Value.ref A0 :: us).length = ps.length := by rw [← r2.length, F1.len _ _ _ _ hq]
  have hus : us.length ≤ sizeLine := by
    rw [← Paired.length r1, sizeLine_eq]
    omega
  have hb2 := hb ⟨hp2, g, dr, tk, os⟩ (Value.ref A0 :: us) I2.kIn (by rw [List.append_nil]; exact hl)
  rw [List.append_nil] at hb2
  refine wpAny_call (HandSPX.call_own PySem.F.excBase_Exception (bm := exTail) (fun Y => rfl) (I1.kIn _ _ hC) (PySem.W.looks_findIn I1.kIn iC) (fun self => PySem.W.bind_fn I1.kIn self tI) hus ?_)
  rw [hH2, hA]
  refine codeAny_mono (F1.run _ X.stack _ _ ⟨Value.ref A0 :: us, []⟩ (Value.ref A0 :: us) _ _ (fun _ _ _ => False) (hr.make C us []) (I2.env0.make C us []) hb2 r2 hq) fun r s' hq' => ?_
  cases r with
  | error er => exact hx pins σ _ _ er s' I2 hq'
  | ok fl =>
    cases fl with
    | ret u =>
      obtain ⟨v, H2, os2, bare2, un2, hok2, rv, rfl, d, fs, ea, ed, hd1, q2⟩ := hq'
      obtain ⟨h2, g2, d2, t2, os'⟩ := s'
      exact ⟨rv, mk_end (raises_own T.exC T.tyC) I1 hsz kk un2 hok2 os2 bare2 ea ed hd1 q2⟩
    | next => exact False.elim hq'
    | brk => exact False.elim hq'
    | cont => exact False.elim hq'
end
end GR

end

section
set_option Elab.async false
set_option linter.all false
set_option maxRecDepth 100000
set_option maxHeartbeats 2000000
/-! dicts whose keys are nested tuples of whole numbers, tracked with the keys' own addresses -/
namespace GR
open PySem PySem.Spec PyProof.Rows L2
/-! ### a nested key as it is tracked -/
mutual
def NKat (H : Hp) : NestedKey → V → Prop
  | .none, _ => False
  | .text _, _ => False
  | .num i, v => v = .int i
  | .tup ks, v => ∃ a xs, v = .ref a ∧ H a = some (.tup xs) ∧ NKall H ks xs
def NKall (H : Hp) : List NestedKey → List V → Prop
  | [], xs => xs = []
  | k :: ks, xs => ∃ x r, xs = x :: r ∧ NKat H k x ∧ NKall H ks r
end
mutual
theorem NKat.same {H H' : Hp} (s : Same H H') : ∀ (k : NestedKey) (v : V), NKat H k v → NKat H' k v
  | .none, _, h => by rw [NKat] at h; exact h.elim
  | .text _, _, h => by rw [NKat] at h; exact h.elim
  | .num i, v, h => by rw [NKat] at h ⊢; exact h
  | .tup ks, v, h => by
    rw [NKat] at h ⊢
    obtain ⟨a, xs, e, q, r⟩ := h
    exact ⟨a, xs, e, s _ _ q, NKall.same s ks xs r⟩
theorem NKall.same {H H' : Hp} (s : Same H H') : ∀ (ks : List NestedKey) (xs : List V), NKall H ks xs → NKall H' ks xs
  | [], _, h => by rw [NKall] at h ⊢; exact h
  | k :: ks, _, h => by
    rw [NKall] at h ⊢
    obtain ⟨x, r, e, q, t⟩ := h
    exact ⟨x, r, e, NKat.same s k x q, NKall.same s ks r t⟩
end
mutual
theorem NKat.is {P : Program} {w : World} {H : Hp} {h : Heap} (ok : HOk P w H h) : ∀ (k : NestedKey) (v : V) (u : Value), NKat H k v → RelV v u → NestedIs h k u
  | .none, _, _, z, _ => by rw [NKat] at z; exact z.elim
  | .text _, _, _, z, _ => by rw [NKat] at z; exact z.elim
  | .num i, _, _, z, r => by
    rw [NKat] at z
    subst z
    obtain ⟨t, rfl⟩ := r
    exact .int i t
  | .tup ks, _, _, z, r => by
    rw [NKat] at z
    obtain ⟨a, xs, rfl, q, rr⟩ := z
    cases r
    obtain ⟨_, its, rv, o, e, c, n, d⟩ := (show ObjOk P w H h a (.tup xs) from ok a _ q)
    exact .tup e c d (NKall.is ok ks xs its rr rv)
theorem NKall.is {P : Program} {w : World} {H : Hp} {h : Heap} (ok : HOk P w H h) : ∀ (ks : List NestedKey) (xs : List V) (us : List Value), NKall H ks xs → Vals xs us → NestedAll h ks us
  | [], _, _, z, r => by
    rw [NKall] at z
    subst z
    cases r
    exact .nil
  | k :: ks, _, _, z, r => by
    rw [NKall] at z
    obtain ⟨x, xr, rfl, q, t⟩ := z
    cases r with
    | cons r1 r2 => exact .cons (NKat.is ok k x _ q r1) (NKall.is ok ks xr _ t r2)
end
/-! ### the pairs, by values -/
abbrev NKV := List (NestedKey × Addr × V)
def relN (p : NestedKey × Addr × V) (q : NestedKey × Addr × Value) : Prop := p.1 = q.1 ∧ p.2.1 = q.2.1 ∧ RelV p.2.2 q.2.2
def atN (kvs : NKV) (k : NestedKey) : Option (Addr × V) := (kvs.find? fun x => decide (x.1 = k)).map (·.2)
def putN (k : NestedKey) (v : V) (x : NestedKey × Addr × V) : NestedKey × Addr × V := if x.1 = k then (x.1, x.2.1, v) else x
def stN (kvs : NKV) (k : NestedKey) (a : Addr) (v : V) : NKV := if (atN kvs k).isSome then kvs.map (putN k v) else kvs ++ [(k, a, v)]
def relA (p : Option (Addr × V)) (q : Option (Addr × Value)) : Prop := match p, q with
  | none, none => True
  | some x, some y => x.1 = y.1 ∧ RelV x.2 y.2
  | _, _ => False
theorem relN_at {k : NestedKey} : ∀ {kvs : NKV} {xs : List (NestedKey × Addr × Value)}, Paired relN kvs xs → relA (atN kvs k) (atKey xs k)
  | _, _, .nil => True.intro
  | _, _, .cons (a := p) (b := q) r t => by
    obtain ⟨e1, e2, e3⟩ := r
    have ih := relN_at (k := k) t
    by_cases h : p.1 = k
    · have h' : q.1 = k := e1 ▸ h
      simp only [atN, atKey, List.find?_cons, h, h', decide_true]
      exact ⟨e2, e3⟩
    · have h' : ¬ q.1 = k := fun z => h (e1.trans z)
      simp only [atN, atKey, List.find?_cons, h, h', decide_false]
      exact ih
theorem relN_map {k : NestedKey} {v : V} {u : Value} (r : RelV v u) : ∀ {kvs : NKV} {xs : List (NestedKey × Addr × Value)}, Paired relN kvs xs → Paired relN (kvs.map (putN k v)) (xs.map (putAt k u))
  | _, _, .nil => .nil
  | _, _, .cons (a := p) (b := q) e t => by
    refine .cons ?_ (relN_map r t)
    obtain ⟨e1, e2, e3⟩ := e
    by_cases h : p.1 = k
    · have h' : q.1 = k := e1 ▸ h
      simp only [putN, putAt, h, h', if_true]
      exact ⟨rfl, e2, r⟩
    · have h' : ¬ q.1 = k := fun z => h (e1.trans z)
      simp only [putN, putAt, h, h', if_false]
      exact ⟨e1, e2, e3⟩
theorem paired_app {α β : Type} {F : α → β → Prop} : ∀ {a c : List α} {b d : List β}, Paired F a b → Paired F c d → Paired F (a ++ c) (b ++ d)
  | _, _, _, _, .nil, s => s
  | _, _, _, _, .cons r t, s => .cons r (paired_app t s)
theorem relN_st {k : NestedKey} {a : Addr} {v : V} {u : Value} (r : RelV v u) {kvs : NKV} {xs : List (NestedKey × Addr × Value)} (p : Paired relN kvs xs) : Paired relN (stN kvs k a v) (storedH xs k a u) := by
  have z := relN_at (k := k) p
  unfold stN storedH
  cases e1 : atN kvs k with
  | none =>
    cases e2 : atKey xs k with
    | none =>
      simp only [Option.isSome_none, Bool.false_eq_true, if_false]
      exact paired_app p (.cons ⟨rfl, rfl, r⟩ .nil)
    | some y =>
      rw [e1, e2] at z
      exact z.elim
  | some x =>
    cases e2 : atKey xs k with
    | none =>
      rw [e1, e2] at z
      exact z.elim
    | some y =>
      simp only [Option.isSome_some, if_true]
      exact relN_map r p
/-! ### the dict -/
def dN (P : Program) (w : World) (d : Addr) (kvs : NKV) : HO := .ext fun h => (d == sysModules) = false ∧ ∃ xs, Paired relN kvs xs ∧
  ∃ o es ep, h.get? d = some o ∧ o.ExactDict ∧ o.data = .dict es ep ∧ es.toList = xs.map (entryOfKey (nestedKind P w)) ∧ (xs.map (·.1)).Nodup
/-- the keys stand -/
def Keyed (H : Hp) (kvs : NKV) : Prop := ∀ y ∈ kvs, NKat H y.1 (.ref y.2.1) ∧ y.1.depth ≤ 8
theorem Keyed.same {H H' : Hp} (s : Same H H') {kvs : NKV} (k : Keyed H kvs) : Keyed H' kvs := fun y hy => ⟨NKat.same s _ _ (k y hy).1, (k y hy).2⟩
theorem dN_ok {P : Program} {w : World} {H : Hp} {h : Heap} {d : Addr} {kvs : NKV} {xs : List (NestedKey × Addr × Value)} (hd : (d == sysModules) = false) (p : Paired relN kvs xs)
    (q : ∃ o es ep, h.get? d = some o ∧ o.ExactDict ∧ o.data = .dict es ep ∧ es.toList = xs.map (entryOfKey (nestedKind P w)) ∧ (xs.map (·.1)).Nodup) : ObjOk P w H h d (dN P w d kvs) := by
  refine ⟨⟨hd, xs, p, q⟩, ?_, ?_⟩
  · obtain ⟨o, _, _, e, _⟩ := q
    exact ⟨o, e⟩
  · rintro h1 h2 ⟨a, ys, b, o, es, ep, e, c⟩ k
    exact ⟨a, ys, b, o, es, ep, k _ e, c⟩
theorem dN_at {P : Program} {w : World} {H : Hp} {h : Heap} {d : Addr} {kvs : NKV} (ok : HOk P w H h) (e : H d = some (dN P w d kvs)) (K : Keyed H kvs) :
    (d == sysModules) = false ∧ ∃ xs, Paired relN kvs xs ∧ h.DictOfH (nestedKind P w) d xs := by
  have z : ObjOk P w H h d (dN P w d kvs) := ok d _ e
  obtain ⟨⟨hd, xs, p, o, es, ep, g, x, dt, en, nd⟩, junk⟩ := z
  clear junk
  refine ⟨hd, xs, p, o, es, ep, g, x, dt, en, ?_, nd⟩
  clear en nd e
  induction p with
  | nil => intro y hy; cases hy
  | cons r t ih =>
    intro y hy
    rcases List.mem_cons.mp hy with rfl | hy
    · obtain ⟨e1, e2, _⟩ := r
      have k := K _ (List.mem_cons_self ..)
      rw [e1, e2] at k
      exact ⟨NKat.is ok _ _ _ k.1 rfl, k.2⟩
    · exact ih (fun z hz => K z (List.mem_cons_of_mem _ hz)) y hy
theorem nk_room {A : Around} {k : Nat} (hr : Room k A) : A.in1.units + 8 < cLine := by
  have := hr.un
  show A.units + 1 + 8 < cLine
  omega
section
variable {X : Cx} {o e f i value : Expr} {apos cpos pos pos' : Pos} {td ty tx tv : TE} {n : Nat}
/-- {} -/
def tNNew (P : Program) (w : World) : TE := fun _ H Q => ∀ d, H d = none → Q (.ref d) (upd H d (dN P w d []))
theorem pe_nnew : PE X (.Dict [] [] pos) (tNNew X.prog X.w) := by
  refine ⟨fun pins s σ H Q I h => wpAny_Dict_empty ⟨.ref s.heap.objs.size, _, I.laid (a := s.heap.objs.size) (o := dN X.prog X.w s.heap.objs.size []) (t' := s.toks) (fun _ _ q => Heap.get?_push_of_some _ q) (Nat.le_refl _) ?_, rfl, h _ (I.hok.fresh (Nat.le_refl _))⟩⟩
  have big := dt_empty (P := X.prog) (w := X.w) (H := H) s.heap I.big
  obtain ⟨_, hd, _⟩ := big
  exact dN_ok hd .nil ⟨_, #[], _, Heap.get?_push_size _ rfl, ⟨rfl, rfl, rfl⟩, rfl, rfl, .nil⟩
/-- d.get(k, x) -/
def tNGet (P : Program) (w : World) (td ty tx : TE) : TE := fun σ H Q => td σ H fun x H1 => ∃ d kvs, x = .ref d ∧ H1 d = some (dN P w d kvs) ∧ Keyed H1 kvs ∧ ty σ H1 fun y H2 => tx σ H2 fun z H3 =>
  ∃ kvs k a, H3 d = some (dN P w d kvs) ∧ Keyed H3 kvs ∧ y = .ref a ∧ NKat H3 k (.ref a) ∧ k.depth ≤ 8 ∧ Q (((atN kvs k).map (·.2)).getD z) H3
theorem dN_type {H : Hp} {pins : List (Addr × Obj)} {σ : L2.St} {s : Shared} {d : Addr} {kvs : NKV} (I : Inv X pins σ H s) (e : H d = some (dN X.prog X.w d kvs)) :
    s.TypeIs (.ref d) "dict" ∧ ∀ b, Value.ref d = .ref b → ∃ ob, s.heap.get? b = some ob ∧ ob.dict = none := by
  have z : ObjOk X.prog X.w H s.heap d (dN X.prog X.w d kvs) := I.hok d _ e
  obtain ⟨⟨_, xs, p, ob, es, ep, g, x, _⟩, _⟩ := z
  exact ⟨⟨ob, g, x.1⟩, fun b q => by cases q; exact ⟨ob, g, x.2.1⟩⟩
theorem pe_nget (hr : Room n X.A) (ho : PE X o td) (he : PE X e ty) (hf : PE X f tx) (m : M2 X o "get" apos e f cpos) : PE X (.Call (.Attribute o "get" apos) [e, f] [] cpos) (tNGet X.prog X.w td ty tx) := by
  refine ⟨fun pins s σ H Q I h => ?_⟩
  refine wpAny_Call_method m.base m.few m.line PySem.F.plainAttrs_dict PySem.F.slot_dict_get PySem.F.type_dict_get (thn (ho.run pins s σ H _ I h) fun u s1 hh => ?_)
  obtain ⟨x, H1, I1, rx, d, kvs, rfl, ed, K, q1⟩ := hh
  cases rx
  obtain ⟨t1, t2⟩ := dN_type I1 ed
  refine ⟨t1, t2, ?_⟩
  rw [m.trees]
  refine Calls.callWith_builtin rfl (Calls.evalArgs_plain (Calls.spliced_cons (thn (he.run pins s1 σ H1 _ I1 q1) fun iv s2 hh => ?_)))
  obtain ⟨y, H2, I2, ry, q2⟩ := hh
  refine Calls.spliced_cons (thn (hf.run pins s2 σ H2 _ I2 q2) fun fv s3 hh => Calls.spliced_nil ?_)
  obtain ⟨z, H3, I3, rz, kvs, k, a, ed3, K3, rfl, nk, dp, q⟩ := hh
  cases ry
  obtain ⟨hd, xs, p, dd⟩ := dN_at I3.hok ed3 K3
  have key : (nestedKind X.prog X.w).is s3.heap k a := ⟨NKat.is I3.hok _ _ _ nk rfl, dp⟩
  refine call_meetsIn PySem.F.slot_dict_get dd.typeIs PySem.F.entry_dict_get (PySem.F.args_dict_get_3 _ _ _) (meetsH_dict_get_default (nestedKind X.prog X.w) d a hd fv) ⟨nk_room hr, k, xs, key, dd, ?_⟩
  refine ⟨_, H3, I3.tok _, ?_, q⟩
  have rel := relN_at (k := k) p
  cases e1 : atN kvs k with
  | none =>
    cases e2 : atKey xs k with
    | none => exact rz
    | some y =>
      rw [e1, e2] at rel
      exact rel.elim
  | some x =>
    cases e2 : atKey xs k with
    | none =>
      rw [e1, e2] at rel
      exact rel.elim
    | some y =>
      rw [e1, e2] at rel
      exact rel.2
/-- d[k], there -/
def tNIx (P : Program) (w : World) (td ty : TE) : TE := fun σ H Q => td σ H fun x H1 => ty σ H1 fun y H2 =>
  ∃ d kvs k a p, x = .ref d ∧ H2 d = some (dN P w d kvs) ∧ Keyed H2 kvs ∧ y = .ref a ∧ NKat H2 k (.ref a) ∧ k.depth ≤ 8 ∧ atN kvs k = some p ∧ Q p.2 H2
theorem pe_nix (hr : Room n X.A) (ho : PE X o td) (hi : PE X i ty) (hs : NoSl i) : PE X (.Subscript o i pos) (tNIx X.prog X.w td ty) := by
  refine ⟨fun pins s σ H Q I h => ?_⟩
  refine subD_of PySem.F.slot_dict_getitem.lookup hs (thn (ho.run pins s σ H _ I h) fun u s1 hh => ?_)
  obtain ⟨x, H1, I1, rx, q1⟩ := hh
  refine thn (hi.run pins s1 σ H1 _ I1 q1) fun iv s2 hh => ?_
  obtain ⟨y, H2, I2, ry, d, kvs, k, a, p, rfl, ed, K, rfl, nk, dp, hat, q⟩ := hh
  cases rx
  cases ry
  obtain ⟨hd, xs, pr, dd⟩ := dN_at I2.hok ed K
  refine ⟨(dN_type I2 ed).1, ?_⟩
  have rel := relN_at (k := k) pr
  rw [hat] at rel
  cases e2 : atKey xs k with
  | none =>
    rw [e2] at rel
    exact rel.elim
  | some y =>
    rw [e2] at rel
    exact wpAny_getItem_heap (knd := nestedKind X.prog X.w) (nk_room hr) ⟨NKat.is I2.hok _ _ _ nk rfl, dp⟩ dd e2 ⟨p.2, H2, I2.tok _, rel.2, q⟩
/-- d[k] = v -/
def sNPut (P : Program) (w : World) (td ty tv : TE) : TS := fun D σ H => tv σ H fun v H1 => td σ H1 fun x H2 => ty σ H2 fun y H3 =>
  ∃ d kvs k a, x = .ref d ∧ H3 d = some (dN P w d kvs) ∧ Keyed H3 kvs ∧ y = .ref a ∧ NKat H3 k (.ref a) ∧ k.depth ≤ 8 ∧ kvs.length ≤ 1000000 ∧ D.nx σ (upd H3 d (dN P w d (stN kvs k a v)))
theorem ps_nput (hr : Room n X.A) (ho : PE X o td) (hi : PE X i ty) (hv : PE X value tv) (hs : swapsWith value (some (.Subscript o i pos')) pos.line X.env = pure false := by rfl) :
    PS X (.Assign [.Subscript o i pos'] value pos) (sNPut X.prog X.w td ty tv) := by
  refine ⟨fun pins s σ H D I h => ?_⟩
  refine wpAny_Assign_Subscript (thn (hv.run pins s σ H _ I h) fun r s1 hh => ?_) hs
  obtain ⟨v, H1, I1, rv, q1⟩ := hh
  refine thn (ho.run pins s1 σ H1 _ I1 q1) fun u s2 hh => ?_
  obtain ⟨x, H2, I2, rx, q2⟩ := hh
  refine thn (hi.run pins s2 σ H2 _ I2 q2) fun iv s3 hh => ?_
  obtain ⟨y, H3, I3, ry, d, kvs, k, a, rfl, ed, K, rfl, nk, dp, hz, q⟩ := hh
  cases rx
  cases ry
  obtain ⟨hd, xs, pr, dd⟩ := dN_at I3.hok ed K
  have hl : xs.length ≤ sizeLine := by
    rw [← Paired.length pr, sizeLine_eq]
    omega
  refine wpAny_setItem_heap (knd := nestedKind X.prog X.w) (nk_room hr) ⟨NKat.is I3.hok _ _ _ nk rfl, dp⟩ dd (fun h' dd' sb => ?_) hl
  obtain ⟨ob, es, ep, g, xd, dt, en, _, nd⟩ := dd'
  refine ⟨σ, _, I3.write (x := d) (e := d) (o := dN X.prog X.w d (stN kvs k a v)) ?_ (.inl rfl) (fun b w hb z => (sb.2 b hb).trans z) ⟨ob, g⟩ (dN_ok hd (relN_st rv pr) ⟨ob, es, ep, g, xd, dt, en, nd⟩), q⟩
  rw [ed]
  exact True.intro
/-- list(d) -/
theorem call_list_dN (hc : X.calm = true) : CallR X (.type "list") (fun xs H Q => ∃ d kvs, xs = [V.ref d] ∧ H d = some (dN X.prog X.w d kvs) ∧ kvs.length ≤ 1000000 ∧
    ∀ p, H p = none → Q (.ref p) (upd H p (.lst (kvs.map fun y => V.ref y.2.1)))) := by
  intro pins s σ H xs us Q I r h
  obtain ⟨d, kvs, rfl, ed, hz, q⟩ := h
  obtain ⟨u, rfl, rx⟩ := r.one
  cases rx
  have z : ObjOk X.prog X.w H s.heap d (dN X.prog X.w d kvs) := I.hok d _ ed
  obtain ⟨⟨hd, ks, pr, o, es, ep, ho, hx, hdt, he, hn⟩, junk⟩ := z
  clear junk
  have l0 : kvs.length = ks.length := Paired.length pr
  have l1 : es.size = ks.length := by rw [← Array.length_toList, he, List.length_map]
  have hsz : es.size ≤ sizeLine := by rw [l1, ← l0, sizeLine_eq]; omega
  refine PySem.W.kdl_call (KdlSrc.rawDict (es := es) (ep := ep) hd) (I.ok.hd hc) ⟨o, ho, hx, hdt⟩ hsz fun h' tk acc' c' kp e it => ?_
  have ea : acc'.toList = ks.map fun x => Value.ref x.2.1 := by
    apply List.ext_getElem?
    intro j
    rw [List.getElem?_map]
    cases hj : ks[j]? with
    | none =>
      have := List.getElem?_eq_none_iff.mp hj
      rw [List.getElem?_eq_none (by rw [Array.length_toList, it.1]; omega)]
      rfl
    | some b =>
      obtain ⟨hlt, hb⟩ := List.getElem?_eq_some_iff.mp hj
      have hj2 : j < acc'.size := by rw [it.1]; omega
      obtain ⟨hi, hv⟩ := it.2 j acc'[j] (by simp [hj2])
      have en : es.toList[j]? = some (entryOfKey (nestedKind X.prog X.w) b) := by rw [he, List.getElem?_map, hj]; rfl
      have en2 : es[j] = entryOfKey (nestedKind X.prog X.w) b := by
        rw [Array.getElem?_toList, Array.getElem?_eq_getElem hi] at en
        exact Option.some.inj en
      rw [en2] at hv
      rw [Array.getElem?_toList, Array.getElem?_eq_getElem hj2, hv]
      rfl
  have rv : Vals (kvs.map fun y => V.ref y.2.1) acc'.toList := by
    rw [ea]
    clear ea it he hn hz ed l0 l1 q
    induction pr with
    | nil => exact .nil
    | cons r t ih => exact .cons (show Value.ref _ = Value.ref _ by rw [r.2.1]) ih
  refine ⟨.ref s.heap.objs.size, _, I.laid (t' := tk) kp (Nat.le_refl _) (show ObjOk X.prog X.w _ h' _ (.lst (kvs.map fun y => V.ref y.2.1)) from ⟨?_, acc'.toList, c', rv, ?_⟩), rfl, q _ (I.hok.fresh (Nat.le_refl _))⟩
  · rw [List.length_map, sizeLine_eq]
    omega
  · rw [Array.toArray_toList]
    exact e
end
end GR

end

section
set_option Elab.async false
set_option linter.all false
set_option maxRecDepth 100000
set_option maxHeartbeats 2000000
/-! a call of what an expression gives: one of several defs -/
namespace GR
open PySem PySem.Spec PyProof.Rows L2
def tCallF (S : Addr → Sp → Prop) (tf : TE) (t : TA) : TE := fun σ H Q => tf σ H fun v H1 => ∃ f sp, v = .ref f ∧ S f sp ∧ t σ H1 fun vs H2 => sp vs H2 Q E0
theorem pe_callF {X : Cx} {k : Nat} {S : Addr → Sp → Prop} {fe e : Expr} {es : List Expr} {tf : TE} {t : TA} {pos : Pos} (A : ∀ f sp, S f sp → Held X.prog X.w X.K X.mg X.base k f sp) (hr : Room k X.A) (hf : PE X fe tf) (ha : PA X (e :: es) t)
    (hc : eval (.Call fe (e :: es) [] pos) X.env = (do callWith pos (← eval fe X.env) [] (backTo pos (starEach (e :: es) X.env)) (backToKw pos (keywordEach [] X.env))) := by rfl)
    (he : starEach (e :: es) X.env = (false, eval e X.env) :: starEach es X.env := by rfl) (hpl : (backTo pos (starEach es X.env)).any (·.1) = false := by rfl) :
    PE X (.Call fe (e :: es) [] pos) (tCallF S tf t) := by
  refine ⟨fun pins s σ H Q I h => Call_ (thn (hf.run pins s σ H _ I h) fun u s1 hh => ?_) hc⟩
  obtain ⟨v, H1, I1, rv, f, sp, rfl, hS, ht⟩ := hh
  cases rv
  obtain ⟨fd, ps, F, hk, hb⟩ := (A f sp hS).ex
  refine PySem.W.callWith_K (h₀ := X.base) I.ok.mod.kin hk (thn (ha.run pos pins s1 σ H1 _ I1 ht) fun us s2 hh => ?_) he hpl
  obtain ⟨vs, H2, I2, r, q⟩ := hh
  refine ⟨I2.kIn, run_fn (dvs := []) (E := E0) F hr hb .nil (fun _ _ _ _ _ _ _ z => z.elim) I2 r ?_⟩
  rw [List.append_nil]
  exact q
end GR

end

section
set_option Elab.async false
set_option linter.all false
set_option maxRecDepth 100000
set_option maxHeartbeats 2000000
/-! setdefault with tuple keys; min with a default; an own exception without arguments -/
namespace GR
open PySem PySem.Spec PyProof.Rows L2
section
variable {X : Cx} {o e f : Expr} {apos cpos : Pos} {td ty tx : TE} {n : Nat}
/-- d.setdefault(k, x), k a tuple of whole numbers -/
def tTSetd (td ty tx : TE) : TE := fun σ H Q => td σ H fun x H1 => ∃ a, x = .ref a ∧ IsD H1 a ∧ ty σ H1 fun y H2 => tx σ H2 fun z H3 => ∃ (kvs : List (List Key × V)) (k : List Key) (b : Addr), H3 a = some (.dT kvs) ∧ y = .ref b ∧ H3 b = some (.tup (k.map kV)) ∧
  kvs.length ≤ 1000000 ∧ (∀ v, valV kvs k = some v → Q v H3) ∧ (valV kvs k = none → Q z (upd H3 a (.dT (putK kvs k z))))
theorem pe_tsetd (hu : X.A.units + 1 < cLine) (ho : PE X o td) (he : PE X e ty) (hf : PE X f tx) (m : M2 X o "setdefault" apos e f cpos) : PE X (.Call (.Attribute o "setdefault" apos) [e, f] [] cpos) (tTSetd td ty tx) := by
  refine ⟨fun pins s σ H Q I h => ?_⟩
  refine wpAny_Call_method m.base m.few m.line PySem.F.plainAttrs_dict PySem.F.slot_dict_setdefault PySem.F.type_dict_setdefault (thn (ho.run pins s σ H _ I h) fun u s1 hh => ?_)
  obtain ⟨x, H1, I1, rx, a, rfl, d, q1⟩ := hh
  cases rx
  obtain ⟨t1, t2, _⟩ := isD_at I1 d
  refine ⟨t1, t2, ?_⟩
  rw [m.trees]
  refine Calls.callWith_builtin rfl (Calls.evalArgs_plain (Calls.spliced_cons (thn (he.run pins s1 σ H1 _ I1 q1) fun iv s2 hh => ?_)))
  obtain ⟨y, H2, I2, ry, q2⟩ := hh
  refine Calls.spliced_cons (thn (hf.run pins s2 σ H2 _ I2 q2) fun fv s3 hh => Calls.spliced_nil ?_)
  obtain ⟨z, H3, I3, rz, kvs, k, b, ea, rfl, eb, hl, q3, q4⟩ := hh
  cases ry
  obtain ⟨hz, hd, xs, rel, dd⟩ := dt_of I3.hok ea
  have hsz : xs.length ≤ sizeLine := Paired.length rel ▸ hz
  refine call_setdefault_heap (hsz := hsz) (tupleKind_room_in1 hu) (key_of I3.hok eb) hd dd (fun p hp => ?_) fun hn h' dd' hs => ?_
  · have q := rel.val k
    rw [hp] at q
    cases q0 : valV kvs k with
    | none =>
      rw [q0] at q
      exact q.elim
    | some v0 =>
      rw [q0] at q
      exact ⟨v0, H3, I3.tok _, q, q3 v0 q0⟩
  · have q := rel.val k
    rw [hn] at q
    cases q0 : valV kvs k with
    | some v0 =>
      rw [q0] at q
      exact q.elim
    | none =>
      have hl2 : (putK kvs k z).length ≤ sizeLine := by
        have := length_putK kvs k z
        rw [sizeLine_eq]
        omega
      obtain ⟨ob, es, ep, hq, h2, h3, h4, _, h5⟩ := dd'
      refine ⟨z, _, d_write (ob := .dT (putK kvs k z)) I3 (by rw [ea]; exact True.intro) hs ⟨ob, hq⟩ ⟨hl2, hd, _, (rel.put k eb rz).keeps fun c ys ec => ?_, ob, es, ep, hq, h2, h3, h4, h5⟩, rz, q4 q0⟩
      rw [upd_ne (ne_of ec ea (fun z => nomatch z))]
      exact ec
end
/-! ### min(xs, default=d) -/
section
variable {X : Cx}
/-- of a list of whole numbers: the least one, or what is told -/
def rMinD (K : PySem.W.Frag) : List V → List V → Hp → VK → Prop := fun vs zs H Q => ∃ (a : Addr) (ns : List Int) (d : V), vs = [V.ref a] ∧ zs = [d] ∧ SqL K H a (ns.map V.int) ∧ (ns = [] → Q d H) ∧ (∀ n r, ns = n :: r → Q (.int (r.foldl min n)) H)
theorem reads_ints {h : Heap} : ∀ {us : List Value} {ns : List Int}, Vals (ns.map V.int) us → ReadsAll h us (ns.map PyData.int) []
  | _, [], .nil => .nil
  | _, n :: ns, .cons (b := u) r t => by
    obtain ⟨k, rfl⟩ := r
    exact .cons (as := []) (bs := []) (.int n k) (reads_ints t)
theorem depth_ints : ∀ ns : List Int, PyData.depthAll (ns.map PyData.int) = 0
  | [] => rfl
  | n :: ns => by
    have ih := depth_ints ns
    show max (PyData.int n).depth (PyData.depthAll (ns.map PyData.int)) = 0
    rw [ih]
    rfl
theorem cr_minD {n : Nat} (hc : X.calm = true) (hr : Room n X.A) : CallRK X (.builtin "min") ["default"] (rMinD X.K) := by
  intro pins s σ H xs zs us ws Q I r rz h
  obtain ⟨a, ns, d, rfl, rfl, hs, q0, q1⟩ := h
  obtain ⟨its, rv, hl, _⟩ := I.list hs
  obtain rfl := Vals.ref1 r
  obtain ⟨u, rfl, ru⟩ := rz.one
  have alk : PySem.W.AlikeAll (ns.map PyData.int) := by
    refine ⟨fun x hx y hy => ?_, fun x hx => ?_⟩
    · obtain ⟨i, _, rfl⟩ := List.mem_map.mp hx
      obtain ⟨j, _, rfl⟩ := List.mem_map.mp hy
      rfl
    · obtain ⟨i, _, rfl⟩ := List.mem_map.mp hx
      exact fun z => nomatch z
  have hun := hr.un
  refine PySem.W.min_list_default (I.ok.hd hc) hl.isList (reads_ints (h := s.heap) (us := its) rv) alk (by rw [depth_ints]; omega) (fun e h' tk hk => ?_) fun y ys i v h' tk bs e hv rd hk => ?_
  · have e : ns = [] := by
      cases ns with
      | nil => rfl
      | cons n ns => cases e
    exact ⟨d, H, I.kept hk, ru, q0 e⟩
  · cases ns with
    | nil => cases e
    | cons n ns =>
      have e : PyData.int n :: ns.map PyData.int = y :: ys := e
      cases e
      rw [PySem.W.minD_ints] at rd
      cases rd
      exact ⟨.int _, H, I.kept hk, ⟨_, rfl⟩, q1 n ns rfl⟩
end
/-! ### raise X(), X an own class over Exception without __init__ -/
section
variable {X : Cx} {C : Addr} {bmB : List Value} {B newId initId : String}
theorem pmk_own0 {x : Str} {p pos : Pos} (F : ExcBaseFacts B newId initId bmB) (q : PySem.W.excIn X.K C bmB newId = true) (gC : X.mg x = some (.ref C)) (kC : PySem.W.keepIn X.K (.ref C) = true) (r : Raises X (.ref C)) (hg : Gl X x)
    (hdb : (x == ("__debug__" : Str)) = false := by decide) : PMk X (.Call (.Name x p) [] [] pos) (fun _ H Q => Q (.ref C) none H) := by
  intro pins s σ H Q I h
  refine wpAny_Call_Name_kw (ld_glob I hg gC ?_ hdb)
  obtain ⟨bm, N, nm, qn, bs, hdct, sn, sub, ab, col, dd, k0, k1, k2, k3, k5, mN, hC, hN, hni, T⟩ := exc_obj I.kIn q
  refine PySem.W.callWith_K0 I.kIn kC ?_
  exact wpAny_call_exc_subT F T hC hN hni (fun h' e hm => mk_of I hm r h (I.hok.gone hm.new)) (by show 0 ≤ sizeLine; exact Nat.zero_le _)
end
end GR

end

section
set_option Elab.async false
set_option linter.all false
set_option maxRecDepth 100000
set_option maxHeartbeats 2000000
/-! enumerate over a tuple; list(enumerate(xs)) -/
namespace GR
open PySem PySem.Spec PyProof.Rows L2
/-! ### enumerate(v) begins -/
theorem meets_enum0 {v : Value} {ob : Obj} {St : Heap → Prop} (B : Begins v ob St) :
    Meets (Builtin.«enumerate.__new__» ⟨[.type "enumerate", v], []⟩) (fun _ R s => St s.heap ∧
      R (.ok (.ret (.ref (s.heap.push ob).objs.size))) { s with heap := (s.heap.push ob).push { cls := .type "enumerate", data := .fields #[.none, .bool false, .ref s.heap.objs.size, rawInt 0, .none, .none] } }) :=
  .of_wp fun prog w A R s h => by
    obtain ⟨hp, gs, dr, tk, os⟩ := s
    obtain ⟨st, h⟩ := h
    have hsub := sub_enumerate
    have begin_it : ∀ {A' : Around} {E : Value → Shared → Prop} {Q : Value → Shared → Prop}, Q (.ref hp.objs.size) ⟨hp.push ob, gs, dr, tk, os⟩ → wpAny (model prog w) A' (pyIter v) Q E ⟨hp, gs, dr, tk, os⟩ :=
      fun q => B.iter prog w _ _ ⟨hp, gs, dr, tk, os⟩ _ st q
    wp_walk using begin_it
    refine wpAny_stack_any fun st => wpAny_pure ?_
    split
    · rename_i c _ _ _ _ _
      cases (c == Value.type "enumerate")
      · wp_walk using begin_it
        exact ⟨_, rfl, h⟩
      · wp_walk using begin_it
        exact ⟨_, rfl, h⟩
    · wp_walk using begin_it
      exact ⟨_, rfl, h⟩
theorem enum_begins0 {prog : Program} {w : World} {A : Around} {E : Value → Shared → Prop} {s : Shared} {v : Value} {ob : Obj} {St : Heap → Prop} {Q : Value → Shared → Prop} (B : Begins v ob St) (st : St s.heap)
    (h : ∀ h', IsEnum h' (s.heap.objs.size + 1) s.heap.objs.size 0 .none → h'.get? s.heap.objs.size = some ob → (∀ b o, s.heap.get? b = some o → h'.get? b = some o) → Q (.ref (s.heap.objs.size + 1)) { s with heap := h' }) :
    wpAny (model prog w) A (call (.type "enumerate") [v]) Q E s := by
  refine callType_new PySem.F.called_enumerate (by decide) (PySem.F.typeCall_enumerate_1 _) (PySem.F.newCall_enumerate_1 _) (fun obj => PySem.F.args_object_init_2 obj _) PySem.F.entry_enumerate_new (meets_enum0 B) ⟨st, ?_⟩
  have z : (s.heap.push ob).objs.size = s.heap.objs.size + 1 := Heap.size_push ..
  show _ ∧ _
  rw [z]
  have e : IsEnum ((s.heap.push ob).push { cls := .type "enumerate", data := .fields #[.none, .bool false, .ref s.heap.objs.size, rawInt 0, .none, .none] }) (s.heap.objs.size + 1) s.heap.objs.size 0 .none := by
    have y := Heap.get?_push_size (s.heap.push ob) (o := { cls := .type "enumerate", data := .fields #[.none, .bool false, .ref s.heap.objs.size, rawInt 0, .none, .none] }) rfl
    rw [z] at y
    exact y
  exact ⟨⟨_, e, rfl⟩, h _ e (Heap.get?_push_of_some _ (Heap.get?_push_size _ B.free)) fun b o x => Heap.get?_push_of_some _ (Heap.get?_push_of_some _ x)⟩
/-! ### over a tuple -/
def Itet (K : PySem.W.Frag) (a : Addr) : It :=
  ⟨fun i H => ∃ (xs : List V) (x : V), SqT K H a xs ∧ xs[i]? = some x, fun i H v H' => ∃ T x, v = .ref T ∧ H T = none ∧ H' = upd H T (.tup [.int (i : Nat), x]) ∧ ∀ xs, SqT K H a xs → xs[i]? = some x, fun i H => ∃ xs : List V, SqT K H a xs ∧ xs.length = i⟩
theorem turn_enumT {P : Program} {w : World} {K : PySem.W.Frag} {elts : List Expr} {kk : Nat} {tpos : Pos} (a e it : Addr) :
    Turn P w K (.Tuple elts kk tpos) (Itet K a) [e, it] e (fun i h => (∃ old, IsEnum h e it ((i : Nat) : Int) old) ∧ h.IsTupleIter it a i ∧ e ≠ it) where
  mem := by simp
  obj := fun i h st b hb => by
    obtain ⟨⟨old, he⟩, ⟨o, ho, hc, hd⟩, _⟩ := st
    have e' : b = e ∨ b = it := by simpa using hb
    rcases e' with z | z
    · rw [z]
      exact ⟨_, he, fun v q => nomatch q⟩
    · rw [z]
      exact ⟨o, ho, fun v q => by rw [hd] at q; cases q⟩
  keep := fun i h h' st k => by
    obtain ⟨⟨old, he⟩, hi, hne⟩ := st
    exact ⟨⟨old, k e (by simp) _ he⟩, hi.at fun o q => k it (by simp) o q, hne⟩
  item := by
    intro Y gP gw gK gc i pins s σ H E I hf st hg
    subst gP gw gK
    obtain ⟨⟨old, he⟩, hit, hne⟩ := st
    obtain ⟨xs, x, hq, hx⟩ := hg
    obtain ⟨its, rv, tp, _⟩ := I.tuple hq
    obtain ⟨u, hu, ru⟩ := rv.get hx
    have tp' : s.heap.IsTuple a its.toArray := tp
    have hel : e < s.heap.objs.size := Heap.lt_size he
    have hil : it < s.heap.objs.size := by
      obtain ⟨_, q, _⟩ := hit
      exact Heap.lt_size q
    have nai : a ≠ it := fun z => by
      obtain ⟨o1, g1, c1, _⟩ := tp'
      obtain ⟨o2, g2, c2, _⟩ := hit
      rw [z, g2] at g1
      cases g1
      rw [c2] at c1
      exact absurd (Value.type.inj c1) (by decide)
    have nea : e ≠ a := fun z => by
      obtain ⟨o1, g1, c1, _⟩ := tp'
      have he' : s.heap.get? e = _ := he
      rw [z, g1] at he'
      cases he'
      exact absurd (Value.type.inj c1) (by decide)
    have hiL : i < its.toArray.size := by
      have := (List.getElem?_eq_some_iff.mp hu).1
      simpa using this
    refine wpAny_pyNext_enum_itemD (Draws.tuple (A := Y.A.in1) (I.ok.hd gc) it a nai its.toArray) he ⟨hit, tp'⟩ hiL hne (by simp [hne, nea]) fun v h' tk hv ho hit' hT _ hk => ?_
    have ev : v = u := by
      have hv : its.toArray[i]? = some v := hv
      rw [List.getElem?_toArray, hu] at hv
      exact (Option.some.inj hv).symm
    subst ev
    refine ⟨_, rfl, wpAny_letOwnedTupleGo_enum (s := { s with heap := h', toks := tk + 1 }) ho fun h'' he' sb => ?_⟩
    have hT2 : h''.get? s.heap.objs.size = some { cls := .type "tuple", data := .seq #[.int i tk, v] } := (sb.2 _ (Nat.ne_of_gt hel)).trans hT
    have new : ObjOk Y.prog Y.w (upd H s.heap.objs.size (.tup [.int (i : Nat), x])) h'' s.heap.objs.size (.tup [.int (i : Nat), x]) :=
      ⟨by show 2 ≤ sizeLine; decide, [.int i tk, v], .cons ⟨_, rfl⟩ (.cons ru .nil), ⟨_, hT2, rfl, _, rfl⟩⟩
    have I1 : Inv Y pins σ (upd H s.heap.objs.size (.tup [.int (i : Nat), x])) { s with heap := h'', toks := tk + 1 } :=
      I.turnedNew (ch := [e, it]) (fun b ob hb q => (sb.2 b (fun z => hb (by simp [z]))).trans (hk b ob (fun z => hb (by simp [z])) (fun z => hb (by simp [z])) q)) hf (Nat.le_refl _) new
    refine ⟨.ref s.heap.objs.size, _, I1, rfl, ⟨_, x, rfl, I.hok.fresh (Nat.le_refl _), rfl, fun ys hy => by rw [I.tuple_inj hy hq]; exact hx⟩, ⟨⟨v, ?_⟩, hit'.1.at fun o q => (sb.2 it (Ne.symm hne)).trans q, hne⟩, fun b hb => ?_⟩
    · have e1 : ((i + 1 : Nat) : Int) = (i : Int) + 1 := by omega
      rw [e1]
      exact he'
    · have hb' : b < s.heap.objs.size := by
        have e' : b = e ∨ b = it := by simpa using hb
        rcases e' with z | z
        · rw [z]
          exact hel
        · rw [z]
          exact hil
      rw [upd_ne (Nat.ne_of_lt hb')]
      exact (hf b hb).1
  done := by
    intro Y gP gw gK gc i pins s σ H E I hf st hg
    subst gP gw gK
    obtain ⟨⟨old, he⟩, hit, hne⟩ := st
    obtain ⟨xs, hq, hx⟩ := hg
    obtain ⟨its, rv, tp, _⟩ := I.tuple hq
    have tp' : s.heap.IsTuple a its.toArray := tp
    obtain ⟨f0, f1, f2, f3, f4, f5⟩ := hf it (by simp)
    have hl := rv.length
    have nai : a ≠ it := fun z => by
      obtain ⟨o1, g1, c1, _⟩ := tp'
      obtain ⟨o2, g2, c2, _⟩ := hit
      rw [z, g2] at g1
      cases g1
      rw [c2] at c1
      exact absurd (Value.type.inj c1) (by decide)
    have hi : i = its.toArray.size := by
      rw [List.size_toArray]
      omega
    subst hi
    exact wpAny_pyNext_enum_endD (Draws.tuple (A := Y.A.in1) (I.ok.hd gc) it a nai its.toArray) he ⟨hit, tp'⟩ fun h' eb => ⟨rfl, I.turned (t' := s.toks) (fun b o hb q => eb b o hb q) f0 f1 f3 f4 f5⟩
  self := fun A i s Q E st h => by
    obtain ⟨⟨_, he⟩, _⟩ := st
    exact wpAny_pyIter_enum he h
def iEnumT (K : PySem.W.Frag) (ta : TA) : TI := fun σ H R => ta σ H fun vs H1 => ∃ a xs, vs = [.ref a] ∧ SqT K H1 a xs ∧ R (Itet K a) H1
theorem pi_enumT {X : Cx} {e : Expr} {ta : TA} {p pos tpos : Pos} {elts : List Expr} {kk : Nat} (hg : Gl X "enumerate") (hm : X.mg "enumerate" = none) (ha : PA X [e] ta) (hs : starEach [e] X.env = [(false, eval e X.env)] := by rfl) :
    PI X (.Tuple elts kk tpos) (.Call (.Name "enumerate" p) [e] [] pos) (iEnumT X.K ta) := by
  refine ⟨fun pins s σ H R I h => ?_⟩
  refine Call_ (ld_blt I hg hm boot_enumerate (PyProof.Rows.callWith_type1 (thn (ha.run pos pins s σ H _ I h) fun us s1 hh => ?_) hs rfl))
  obtain ⟨vs, H1, I1, r1, a, xs, rfl, hq, q⟩ := hh
  obtain rfl := Vals.ref1 r1
  obtain ⟨its, rv, tp, _⟩ := I1.tuple hq
  have tp' : s1.heap.IsTuple a its.toArray := tp
  refine enum_begins0 (begins_tuple a its.toArray) tp' fun h' he hit hk => wpAny_pyIter_enum he ?_
  have I2 : Inv X pins σ H1 { s1 with heap := h' } := I1.kept (t' := s1.toks) hk
  refine ⟨s1.heap.objs.size + 1, [s1.heap.objs.size + 1, s1.heap.objs.size], _, _, H1, rfl, I2, turn_enumT a (s1.heap.objs.size + 1) s1.heap.objs.size, ⟨⟨.none, he⟩, ⟨_, hit, rfl, rfl⟩, Nat.succ_ne_self _⟩, fun b hb => ?_, q⟩
  have e' : b = s1.heap.objs.size + 1 ∨ b = s1.heap.objs.size := by simpa using hb
  have hle : s1.heap.objs.size ≤ b := by
    rcases e' with z | z
    · rw [z]
      exact Nat.le_add_right _ _
    · rw [z]
      exact Nat.le_refl _
  exact I1.fpOk hle (I1.hok.fresh hle)
theorem walk_enumT {K : PySem.W.Frag} {a : Addr} {xs : List V} : Walk (Itet K a) xs.length (fun H => SqT K H a xs) (YPair (fun i => some (.int (i : Nat))) (fun i => xs[i]?)) := by
  refine ⟨fun i _ hi q => ⟨xs, xs[i], q, by simp [hi]⟩, fun _ q => ⟨xs, q, rfl⟩, fun i H v H' _ q y => ?_⟩
  obtain ⟨T, x, h1, h2, h3, h4⟩ := y
  exact ⟨T, .int (i : Nat), x, h1, h2, h3, rfl, h4 xs q⟩
end GR

end

section
set_option Elab.async false
set_option linter.all false
set_option maxRecDepth 100000
set_option maxHeartbeats 2000000
/-! list(enumerate(xs)), xs a list -/
namespace GR
open PySem PySem.Spec PyProof.Rows L2
theorem enum_no_len : typeLookup (.type "enumerate") "__len__" = pure none := by rw [typeLookup_type, builtinLookup_eq_fast]; kernel_rfl
theorem enum_no_hint : typeLookup (.type "enumerate") "__length_hint__" = pure none := by rw [typeLookup_type, builtinLookup_eq_fast]; kernel_rfl
/-- where the walk stands while the list S is filled -/
def EnS (items : Array Value) (h : Heap) (e it l S : Addr) (i : Nat) : Prop := h.IsListIter it l i ∧ h.IsList l items ∧
  ((∃ old, IsEnum h e it i old) ∨ ∃ old T f oT, IsEnumHeld h e it i old T f ∧ h.get? T = some oT ∧ T ≠ e ∧ T ≠ it ∧ T ≠ S)
theorem EnS.keep {items : Array Value} {h h' : Heap} {e it l S : Addr} {i : Nat} (x : EnS items h e it l S i) (hk : ∀ b o, b ≠ S → h.get? b = some o → h'.get? b = some o) (n1 : e ≠ S) (n2 : it ≠ S) (n3 : l ≠ S) : EnS items h' e it l S i := by
  obtain ⟨a, b, c⟩ := x
  refine ⟨a.at fun o z => hk _ o n2 z, b.at fun o z => hk _ o n3 z, ?_⟩
  rcases c with ⟨old, c⟩ | ⟨old, T, f, oT, c, d, r1, r2, r3⟩
  · exact .inl ⟨old, hk _ _ n1 c⟩
  · exact .inr ⟨old, T, f, oT, hk _ _ n1 c, hk _ _ r3 d, r1, r2, r3⟩
/-- the pairs that have come lie at as -/
structure Prs (items : Array Value) (lo : Addr) (h : Heap) (as : List Addr) : Prop where
  rise : as.Pairwise (· < ·)
  above : ∀ a ∈ as, lo < a
  pairs : ∀ (j : Nat) (a : Addr), as[j]? = some a → ∃ (t : Tok) (v : Value), items[j]? = some v ∧ h.get? a = some { cls := .type "tuple", data := .seq #[.int j t, v] }
theorem Prs.low {items : Array Value} {lo lo' : Addr} {h : Heap} {as : List Addr} (g : Prs items lo h as) (hl : lo' ≤ lo) : Prs items lo' h as := ⟨g.rise, fun a ha => Nat.lt_of_le_of_lt hl (g.above a ha), g.pairs⟩
section
variable {prog : Program} {w : World} {A : Around} {E : Value → Shared → Prop} {s : Shared} {items : Array Value} {e it l S : Addr} {i : Nat}
theorem en_item {v : Value} {Q : Option Value → Shared → Prop} (st : EnS items s.heap e it l S i) (hS : S < s.heap.objs.size) (hei : e ≠ it) (hle : l ≠ e) (hli : l ≠ it) (hv : items[i]? = some v)
    (hQ : ∀ h' tk t, EnS items h' e it l S (i + 1) → h'.get? s.heap.objs.size = some { cls := .type "tuple", data := .seq #[.int i t, v] } → (∀ b o, b ≠ e → b ≠ it → s.heap.get? b = some o → h'.get? b = some o) → Q (some (.ref s.heap.objs.size)) { s with heap := h', toks := tk }) :
    wpAny (model prog w) A (pyNext (.ref e)) Q E s := by
  obtain ⟨hit, hl, he⟩ := st
  have ec : ((i + 1 : Nat) : Int) = (i : Int) + 1 := by omega
  have nit : s.heap.objs.size ≠ it := by
    obtain ⟨_, x, _⟩ := hit
    exact Nat.ne_of_gt (Heap.lt_size x)
  rcases he with ⟨old, he⟩ | ⟨old, T, f, oT, he, hT, r1, r2, r3⟩
  · refine wpAny_pyNext_enum_item he hit hl hv hei fun h' ho hit' hT _ hk => ?_
    refine hQ h' _ _ ⟨hit', hl.at fun o x => hk l o hle hli x, .inr ⟨v, s.heap.objs.size, false, _, ?_, hT, Nat.ne_of_gt (Heap.lt_size he), nit, Nat.ne_of_gt hS⟩⟩ hT hk
    rw [ec]
    exact ho
  · refine wpAny_pyNext_enum_item_held he hT r1 r2 hit hl hv hei fun h' ho hit' hT' _ hk => ?_
    refine hQ h' _ _ ⟨hit', hl.at fun o x => hk l o hle hli x, .inr ⟨old, T, true, oT, ?_, hk _ _ r1 r2 hT, r1, r2, r3⟩⟩ hT' hk
    rw [ec]
    exact ho
theorem en_done {Q : Option Value → Shared → Prop} (hh : A.handled = none) (st : EnS items s.heap e it l S i) (hv : items[i]? = none) (hQ : ∀ h', Heap.ExtBut it s.heap h' → Q none { s with heap := h' }) : wpAny (model prog w) A (pyNext (.ref e)) Q E s := by
  obtain ⟨hit, hl, he⟩ := st
  rcases he with ⟨old, he⟩ | ⟨old, T, f, oT, he, hT, r1, r2, r3⟩
  · exact wpAny_pyNext_enum_end hh he hit hl hv hQ
  · exact wpAny_pyNext_enum_end_held hh he hit hl hv hQ
theorem en_loop {R : Result → Shared → Prop} (hh : A.handled = none) (hei : e ≠ it) (hle : l ≠ e) (hli : l ≠ it) (nSe : e < S) (nSi : it < S) (nSl : l ≠ S) (hn : items.size ≤ sizeLine) (res : Value) {h₁ : Heap}
    (hR : ∀ h' tk acc c as, (∀ b o, b ≠ S → b ≠ e → b ≠ it → h₁.get? b = some o → h'.get? b = some o) → h'.get? S = some { cls := .type "list", dict := none, data := .seq acc c, slots := #[] } → as.length = items.size → Prs items S h' as → acc.toList = as.map Value.ref →
      R (.ok (.ret res)) { s with heap := h', toks := tk }) :
    ∀ (k i : Nat) (h : Heap) (tk c : Nat) (acc : Array Value) (as : List Addr), items.size - i = k → i ≤ items.size → EnS items h e it l S i → (∀ b o, b ≠ S → b ≠ e → b ≠ it → h₁.get? b = some o → h.get? b = some o) →
      h.get? S = some { cls := .type "list", dict := none, data := .seq acc c, slots := #[] } → acc.toList = as.map Value.ref → as.length = i → Prs items S h as →
      codeAny (model prog w) A (.builtin "list.extend.loop" ⟨[.ref S, .ref e, res], []⟩) R { s with heap := h, toks := tk } := by
  have neS : e ≠ S := Nat.ne_of_lt nSe
  have niS : it ≠ S := Nat.ne_of_lt nSi
  intro k
  induction k with
  | zero =>
    intro i h tk c acc as hk hi hst hkeep hS hacc hal hG
    refine codeAny_builtin PySem.F.entry_extend_loop ?_
    rw [Around.under_plainId PySem.F.plain_extend_loop _]
    show wpAny _ A.in1 (pyNext (.ref e) >>= _) _ _ _
    refine wpAny_bind (en_done (s := { s with heap := h, toks := tk }) (A := A.in1) hh hst (Array.getElem?_eq_none (by omega)) fun h' he => ?_)
    refine wpAny_pure (hR h' tk acc c as (fun b o g1 g2 g3 z => he b o g3 (hkeep b o g1 g2 g3 z)) (he S _ (Ne.symm niS) hS) (by omega) ⟨hG.rise, hG.above, fun j a hj => ?_⟩ hacc)
    obtain ⟨t, v, g1, g2⟩ := hG.pairs j a hj
    have ha := hG.above a (List.mem_of_getElem? hj)
    exact ⟨t, v, g1, he a _ (Nat.ne_of_gt (Nat.lt_trans nSi ha)) g2⟩
  | succ k ih =>
    intro i h tk c acc as hk hi hst hkeep hS hacc hal hG
    have hlt : i < items.size := by omega
    have hsz : acc.size = i := by rw [← Array.length_toList, hacc, List.length_map, hal]
    have hSl : S < h.objs.size := Heap.lt_size hS
    refine codeAny_builtin PySem.F.entry_extend_loop ?_
    rw [Around.under_plainId PySem.F.plain_extend_loop _]
    show wpAny _ A.in1 (pyNext (.ref e) >>= _) _ _ _
    refine wpAny_bind (en_item (s := { s with heap := h, toks := tk }) (S := S) hst hSl hei hle hli (Array.getElem?_eq_getElem hlt) fun h' tk' t hst' ht hkp => ?_)
    dsimp only at ht hkp ⊢
    have hS' := hkp S _ (Ne.symm neS) (Ne.symm niS) hS
    have up : ∀ b o, b ≠ S → h'.get? b = some o → (h'.update S (Obj.mapSeq (·.push (Value.ref h.objs.size)))).get? b = some o := fun b o hb z => (Heap.get?_update_other _ _ (Ne.symm hb)).trans z
    show wpAny _ A.in1 (updateSeq S (·.push (Value.ref h.objs.size)) >>= _) _ _ _
    refine wpAny_bind ?_
    refine wpAny_updateSeq hS' rfl (wpAny_pure ⟨plainId_quiet PySem.F.plain_extend_loop _, ih (i + 1) _ tk' _ (acc.push (Value.ref h.objs.size)) (as ++ [h.objs.size]) (by omega) hlt (hst'.keep up neS niS nSl)
      (fun b o g1 g2 g3 z => up b o g1 (hkp b o g2 g3 (hkeep b o g1 g2 g3 z))) (Heap.get?_update_self _ hS' rfl) (by rw [Array.toList_push, hacc, List.map_append]; rfl) (by rw [List.length_append, hal]; rfl) ⟨?_, ?_, ?_⟩⟩) (by rw [hsz]; omega) (by show (acc.push (Value.ref h.objs.size)).size ≤ sizeLine + 1; rw [Array.size_push, hsz]; omega)
    · refine List.pairwise_append.mpr ⟨hG.rise, List.pairwise_singleton _ _, fun a ha b hb => ?_⟩
      rw [List.mem_singleton.mp hb]
      obtain ⟨j, hj⟩ := List.mem_iff_getElem?.mp ha
      obtain ⟨_, _, _, z⟩ := hG.pairs j a hj
      exact Heap.lt_size z
    · intro a ha
      rcases List.mem_append.mp ha with ha | ha
      · exact hG.above a ha
      · rw [List.mem_singleton.mp ha]
        exact hSl
    · intro j b hj
      rcases Nat.lt_trichotomy j as.length with g | g | g
      · rw [List.getElem?_append_left g] at hj
        obtain ⟨t', v, g1, g2⟩ := hG.pairs j b hj
        have hb := hG.above b (List.mem_of_getElem? hj)
        exact ⟨t', v, g1, up b _ (Nat.ne_of_gt hb) (hkp b _ (Nat.ne_of_gt (Nat.lt_trans nSe hb)) (Nat.ne_of_gt (Nat.lt_trans nSi hb)) g2)⟩
      · subst g
        have hb : h.objs.size = b := by simpa using hj
        subst hb
        subst hal
        exact ⟨t, _, Array.getElem?_eq_getElem hlt, up _ _ (Nat.ne_of_gt hSl) ht⟩
      · have z : (as ++ [h.objs.size])[j]? = none := List.getElem?_eq_none (by rw [List.length_append, List.length_singleton]; omega)
        rw [z] at hj
        cases hj
theorem en_hint (hT : s.TypeIs (.ref e) "enumerate") {Q : Bool → Shared → Prop} (h : Q true s) : wpAny (model prog w) A (Builtin.List.listLengthHint (.ref e)) Q E s := by
  unfold Builtin.List.listLengthHint
  refine wpAny_bind (wpAny_specialOf hT enum_no_len ?_)
  dsimp only
  try rw [if_neg (by decide)]
  try dsimp only [Option.isSome]
  try rw [if_neg (by decide)]
  refine wpAny_bind (wpAny_specialOf hT enum_no_hint ?_)
  exact wpAny_pure h
theorem en_extend {R : Result → Shared → Prop} (hh : A.handled = none) {old : Value} (he : IsEnum s.heap e it 0 old) (hit : s.heap.IsListIter it l 0) (hl : s.heap.IsList l items) (hei : e ≠ it) (hle : l ≠ e) (hli : l ≠ it) (nSe : e < S) (nSi : it < S) (nSl : l ≠ S) (res : Value) (c₀ : Nat)
    (hS : s.heap.get? S = some { cls := .type "list", data := .seq #[] c₀ }) (hn : items.size ≤ sizeLine)
    (hR : ∀ h' tk acc c as, (∀ b o, b ≠ S → b ≠ e → b ≠ it → s.heap.get? b = some o → h'.get? b = some o) → h'.get? S = some { cls := .type "list", dict := none, data := .seq acc c, slots := #[] } → as.length = items.size → Prs items S h' as → acc.toList = as.map Value.ref →
      R (.ok (.ret res)) { s with heap := h', toks := tk }) :
    wpAny (model prog w) A.in1 (Builtin.List.listExtendWith (.ref S) (.ref e) res)
      (fun fin s' => match fin with | .done f => R (.ok f) s' | .again c' => c'.quiet = true ∧ codeAny (model prog w) A c' R s') (fun er s' => R (.error er) s') s := by
  have neS : e ≠ S := Nat.ne_of_lt nSe
  have niS : it ≠ S := Nat.ne_of_lt nSi
  have key : ∀ (h : Heap) (c₁ tk : Nat), (∀ b o, b ≠ S → s.heap.get? b = some o → h.get? b = some o) → h.get? S = some { cls := .type "list", data := .seq #[] c₁ } →
      codeAny (model prog w) A (.builtin "list.extend.loop" ⟨[.ref S, .ref e, res], []⟩) R { s with heap := h, toks := tk } := by
    intro h c₁ tk hk hS₁
    have st : EnS items h e it l S 0 := ⟨hit.at fun o z => hk _ o niS z, hl.at fun o z => hk _ o nSl z, .inl ⟨old, hk _ _ neS he⟩⟩
    exact en_loop hh hei hle hli nSe nSi nSl hn res (h₁ := s.heap) hR items.size 0 h tk c₁ #[] [] (Nat.sub_zero _) (Nat.zero_le _) st (fun b o g1 _ _ z => hk b o g1 z) hS₁ rfl rfl ⟨.nil, (fun _ z => nomatch z), fun j a z => by simp at z⟩
  have hT : s.TypeIs (.ref e) "enumerate" := ⟨_, he, rfl⟩
  unfold Builtin.List.listExtendWith
  refine wpAny_bind (wpAny_typeOf (T := "enumerate") hT ?_)
  have g1 : Builtin.List.listSameRef (.ref S) (.ref e) = false := by simp [Builtin.List.listSameRef, Ne.symm neS]
  have g2 : (Value.type "enumerate" == Value.type "list") = false := by decide
  have g3 : (Value.type "enumerate" == Value.type "tuple") = false := by decide
  simp only [g1, g2, g3, Bool.or_false, Bool.false_eq_true, if_false]
  refine wpAny_bind (wpAny_pyIter_enum he ?_)
  refine wpAny_bind (wpAny_holding (en_hint hT ?_))
  refine wpAny_ite_split (fun _ => ?_) (fun _ => wpAny_pure ⟨plainId_quiet PySem.F.plain_extend_loop _, key _ c₀ _ (fun b o _ z => z) hS⟩)
  refine wpAny_bind (wpAny_rule ?_)
  refine wpAny_bind ?_
  show wpAny _ _ (updateSeq S (·.push .none) >>= fun _ => updateSeq S (·.pop)) _ _ _
  refine wpAny_bind (wpAny_updateSeq hS rfl ?_)
  have hS₂ := Heap.get?_update_self (Obj.mapSeq (·.push Value.none)) hS rfl
  refine wpAny_updateSeq (hz := by seq_fits) hS₂ rfl ?_
  have hS₃ := Heap.get?_update_self (Obj.mapSeq (·.pop)) hS₂ rfl
  refine wpAny_pure ⟨plainId_quiet PySem.F.plain_extend_loop _, key _ _ _ (fun b o hb z => ?_) hS₃⟩
  exact (Heap.get?_update_other _ _ (Ne.symm hb)).trans ((Heap.get?_update_other _ _ (Ne.symm hb)).trans z)
theorem en_init {R : Result → Shared → Prop} (hh : A.handled = none) {old : Value} (he : IsEnum s.heap e it 0 old) (hit : s.heap.IsListIter it l 0) (hl : s.heap.IsList l items) (hei : e ≠ it) (hle : l ≠ e) (hli : l ≠ it) (nSe : e < S) (nSi : it < S) (nSl : l ≠ S)
    (hS : s.heap.get? S = some { cls := .type "list", data := .seq #[] }) (hn : items.size ≤ sizeLine)
    (hR : ∀ h' tk acc c as, (∀ b o, b ≠ S → b ≠ e → b ≠ it → s.heap.get? b = some o → h'.get? b = some o) → h'.get? S = some { cls := .type "list", dict := none, data := .seq acc c, slots := #[] } → as.length = items.size → Prs items S h' as → acc.toList = as.map Value.ref →
      R (.ok (.ret .none)) { s with heap := h', toks := tk }) :
    wpAny (model prog w) A.in1 (Builtin.«list.__init__» ⟨[.ref S, .ref e], []⟩)
      (fun fin s' => match fin with | .done f => R (.ok f) s' | .again c' => c'.quiet = true ∧ codeAny (model prog w) A c' R s') (fun er s' => R (.error er) s') s := by
  show wpAny _ _ (do let before ← Builtin.List.listItems (.ref S); Builtin.List.listUpdate (.ref S) (fun _ => #[]); letGo before.toList.reverse; Builtin.List.listExtendWith (.ref S) (.ref e) .none) _ _ s
  refine wpAny_bind ?_
  unfold Builtin.List.listItems
  refine wpAny_bind (wpAny_seqItems hS rfl (wpAny_pure ?_))
  show wpAny _ _ (updateSeq S (fun _ => #[]) >>= fun _ => letGo (#[] : Array Value).toList.reverse >>= fun _ => Builtin.List.listExtendWith (.ref S) (.ref e) .none) _ _ s
  refine wpAny_bind (wpAny_updateSeq hS rfl ?_)
  have hS₂ := Heap.get?_update_self (Obj.mapSeq (fun _ => (#[] : Array Value))) hS rfl
  have oth : ∀ b o, b ≠ S → s.heap.get? b = some o → (s.heap.update S (Obj.mapSeq (fun _ => (#[] : Array Value)))).get? b = some o := fun b o hb z => (Heap.get?_update_other _ _ (Ne.symm hb)).trans z
  refine wpAny_bind (wpAny_letGo ?_)
  refine en_extend hh (old := old) (oth _ _ (Nat.ne_of_lt nSe) he) (hit.at fun o z => oth _ o (Nat.ne_of_lt nSi) z) (hl.at fun o z => oth _ o nSl z) hei hle hli nSe nSi nSl .none _ hS₂ hn fun h' tk acc c as hk hS' hl' hG hacc => ?_
  exact hR h' tk acc c as (fun b o g1 g2 g3 z => hk b o g1 g2 g3 (oth b o g1 z)) hS' hl' hG hacc
theorem en_call {Q : Value → Shared → Prop} (hh : A.handled = none) {old : Value} (he : IsEnum s.heap e it 0 old) (hit : s.heap.IsListIter it l 0) (hl : s.heap.IsList l items) (hei : e ≠ it) (hle : l ≠ e) (hli : l ≠ it) (hn : items.size ≤ sizeLine)
    (hQ : ∀ h' tk acc c as, (∀ b o, b ≠ e → b ≠ it → s.heap.get? b = some o → h'.get? b = some o) → h'.get? s.heap.objs.size = some { cls := .type "list", dict := none, data := .seq acc c, slots := #[] } → as.length = items.size → Prs items s.heap.objs.size h' as → acc.toList = as.map Value.ref →
      Q (.ref s.heap.objs.size) { s with heap := h', toks := tk }) :
    wpAny (model prog w) A (call (.type "list") [.ref e]) Q E s := by
  refine callType_codes (Q₁ := fun obj s₁ => obj = .ref s.heap.objs.size ∧ s₁ = { s with heap := s.heap.push { cls := .type "list", data := .seq #[] } }) PySem.F.called_list (PySem.F.typeCall_list_1 _) PySem.F.entry_list_init (code_list_new _ ⟨rfl, rfl⟩) fun obj s₁ h₁ => ?_
  obtain ⟨rfl, rfl⟩ := h₁
  have hS : (s.heap.push { cls := .type "list", data := .seq #[] }).get? s.heap.objs.size = some { cls := .type "list", data := .seq #[] } := Heap.get?_push_size _ rfl
  have le : e < s.heap.objs.size := Heap.lt_size he
  have li : it < s.heap.objs.size := by
    obtain ⟨_, z, _⟩ := hit
    exact Heap.lt_size z
  have ll : l < s.heap.objs.size := by
    obtain ⟨_, z, _⟩ := hl
    exact Heap.lt_size z
  refine ⟨⟨_, hS, rfl⟩, PySem.F.args_list_init_2 _ _, en_init (A := A.in1) hh (old := old) (Heap.get?_push_of_some _ he) (hit.at fun o z => Heap.get?_push_of_some _ z) (hl.at fun o z => Heap.get?_push_of_some _ z) hei hle hli le li (Nat.ne_of_lt ll) hS hn fun h' tk acc c as hk hS' hl' hG hacc => ?_⟩
  exact ⟨rfl, hQ h' tk acc c as (fun b o g1 g2 z => hk b o (Nat.ne_of_lt (Heap.lt_size z)) g1 g2 (Heap.get?_push_of_some _ z)) hS' hl' hG hacc⟩
end
/-! ### tracked -/
/-- the pairs tracked at their addresses, from place n on -/
def putE : Nat → Hp → List Addr → List V → Hp
  | n, H, a :: as, x :: xs => putE (n + 1) (upd H a (.tup [.int (n : Nat), x])) as xs
  | _, H, _, _ => H
theorem putE_off {b : Addr} : ∀ (as : List Addr) (xs : List V) (n : Nat) (H : Hp), b ∉ as → putE n H as xs b = H b
  | [], _, _, _, _ => rfl
  | _ :: _, [], _, _, _ => rfl
  | a :: as, x :: xs, n, H, h => by
    show putE (n + 1) (upd H a (.tup [.int (n : Nat), x])) as xs b = H b
    rw [putE_off as xs _ _ (fun z => h (List.mem_cons_of_mem _ z)), upd_ne (fun z => h (by rw [z]; exact List.mem_cons_self))]
theorem putE_at : ∀ (as : List Addr) (xs : List V) (n : Nat) (H : Hp), as.length = xs.length → as.Nodup → ∀ (j : Nat) (a : Addr), as[j]? = some a → ∃ x, xs[j]? = some x ∧ putE n H as xs a = some (.tup [.int ((n + j : Nat) : Int), x])
  | [], _, _, _, _, _, j, a, e => by simp at e
  | _ :: _, [], _, _, h, _, _, _, _ => by cases h
  | a :: as, x :: xs, n, H, h, hn, 0, b, e => by
    have e : some a = some b := e
    cases e
    have hn' := List.nodup_cons.mp hn
    refine ⟨x, rfl, ?_⟩
    show putE (n + 1) (upd H a (.tup [.int (n : Nat), x])) as xs a = _
    rw [putE_off as xs _ _ hn'.1, upd_same]
    rfl
  | a :: as, x :: xs, n, H, h, hn, j + 1, b, e => by
    have hn' := List.nodup_cons.mp hn
    obtain ⟨y, e1, e2⟩ := putE_at as xs (n + 1) (upd H a (.tup [.int (n : Nat), x])) (Nat.succ.inj h) hn'.2 j b e
    refine ⟨y, e1, ?_⟩
    show putE (n + 1) _ as xs b = _
    rw [e2, show n + 1 + j = n + (j + 1) by omega]
theorem refs_rel : ∀ as : List Addr, Vals (as.map V.ref) (as.map Value.ref)
  | [] => .nil
  | _ :: as => .cons rfl (refs_rel as)
def tLE (K : PySem.W.Frag) (ta : TA) : TE := fun σ H Q => ta σ H fun vs H1 => ∃ a xs, vs = [.ref a] ∧ SqL K H1 a xs ∧ xs.length ≤ 1000000 ∧ ∀ (H' : Hp) (p : Addr) (as : List Addr), Same H1 H' → H1 p = none → (∀ t ∈ as, H1 t = none) → H' p = some (.lst (as.map V.ref)) → as.length = xs.length →
  (∀ (j : Nat) (t : Addr), as[j]? = some t → ∃ x, xs[j]? = some x ∧ H' t = some (.tup [.int (j : Nat), x])) → Q (.ref p) H'
section
variable {X : Cx} {e : Expr} {ta : TA} {p p2 pos2 pos : Pos}
theorem pe_listEnum (hc : X.calm = true) (hg2 : Gl X "enumerate") (hm2 : X.mg "enumerate" = none) (ha : PA X [e] ta) (hg : Gl X "list") (hm : X.mg "list" = none) (hv : bootBuiltins "list" = some (.type "list")) (hs2 : starEach [e] X.env = [(false, eval e X.env)] := by rfl)
    (hs : starEach [.Call (.Name "enumerate" p2) [e] [] pos2] X.env = (false, eval (.Call (.Name "enumerate" p2) [e] [] pos2) X.env) :: starEach [] X.env := by rfl) :
    PE X (.Call (.Name "list" p) [.Call (.Name "enumerate" p2) [e] [] pos2] [] pos) (tLE X.K ta) := by
  refine ⟨fun pins s σ H Q I h => ?_⟩
  refine wpAny_Call_Name_kw (ld_blt I hg hm hv ?_)
  refine PyProof.Rows.callWith_type1 ?_ hs rfl
  rw [hs]
  show wpAny _ _ (spliced ((false, eval (.Call (.Name "enumerate" p2) [e] [] pos2) X.env) :: backTo pos (starEach [] X.env))) _ _ s
  refine Calls.spliced_cons ?_
  refine Call_ (ld_blt I hg2 hm2 boot_enumerate (PyProof.Rows.callWith_type1 (thn (ha.run pos2 pins s σ H _ I h) fun us s1 hh => ?_) hs2 rfl))
  obtain ⟨vs, H1, I1, r1, a, xs, rfl, hq, hx, q⟩ := hh
  obtain rfl := Vals.ref1 r1
  obtain ⟨its, rv, lp, _⟩ := I1.list hq
  have lv := rv.length
  have ll : a < s1.heap.objs.size := by
    obtain ⟨_, z, _⟩ := lp.isList
    exact Heap.lt_size z
  refine enum_begins0 (begins_list a its.toArray) lp.isList fun h' he hit hk => Calls.spliced_nil ?_
  have lsz : s1.heap.objs.size + 1 < h'.objs.size := Heap.lt_size he
  refine en_call (s := { s1 with heap := h' }) (I1.ok.hd hc) he ⟨_, hit, rfl, rfl⟩ (lp.isList.at fun o z => hk _ o z) (Nat.succ_ne_self _) (Nat.ne_of_lt (Nat.lt_succ_of_lt ll)) (Nat.ne_of_lt ll) (by rw [List.size_toArray, ← lv, sizeLine_eq]; omega) fun h2 tk acc c as hk2 hS hl hG hacc => ?_
  dsimp only at hS hG hk2
  rw [List.size_toArray] at hl
  have kk : ∀ b o, s1.heap.get? b = some o → h2.get? b = some o := fun b o z => by
    have zl := Heap.lt_size z
    exact hk2 b o (Nat.ne_of_lt (Nat.lt_succ_of_lt zl)) (Nat.ne_of_lt zl) (hk b o z)
  have hSn : h'.objs.size ∉ as := fun z => Nat.lt_irrefl _ (hG.above _ z)
  have nd : as.Nodup := List.Pairwise.imp (fun {a b} (h : a < b) => Nat.ne_of_lt h) hG.rise
  have old : s1.heap.objs.size ≤ h'.objs.size := Nat.le_of_lt (Nat.lt_of_succ_lt lsz)
  have new : ∀ t ∈ as, H1 t = none := fun t ht => I1.hok.fresh (Nat.le_trans old (Nat.le_of_lt (hG.above t ht)))
  have newS : H1 h'.objs.size = none := I1.hok.fresh old
  have off : ∀ b, b ∉ as → b ≠ h'.objs.size → putE 0 (upd H1 h'.objs.size (.lst (as.map V.ref))) as xs b = H1 b := fun b g1 g2 => by rw [putE_off as xs _ _ g1, upd_ne g2]
  have kp : ∀ b u, H1 b = some u → putE 0 (upd H1 h'.objs.size (.lst (as.map V.ref))) as xs b = some u := fun b u z => by
    rw [off b (fun y => by rw [new b y] at z; cases z) (fun y => by rw [y, newS] at z; cases z)]
    exact z
  have eS : putE 0 (upd H1 h'.objs.size (.lst (as.map V.ref))) as xs h'.objs.size = some (.lst (as.map V.ref)) := by rw [putE_off as xs _ _ hSn, upd_same]
  have eP := putE_at as xs 0 (upd H1 h'.objs.size (.lst (as.map V.ref))) (by omega) nd
  refine ⟨.ref h'.objs.size, putE 0 (upd H1 h'.objs.size (.lst (as.map V.ref))) as xs, ?_, rfl, q _ _ as kp newS new eS (by omega) fun j t ht => ?_⟩
  · refine I1.call' (ch := []) rfl ⟨fun b o q _ _ _ => kk b o q, fun b o q _ _ _ => ⟨o.slots, kk b o q⟩, fun b o q n _ => ?_, fun b o q _ => ⟨o, kk b o q⟩, fun b xs q => kp b _ q, fun b o u q => kp b _ q, fun b ps q => ⟨#[], by rw [kp b _ q]; simp⟩⟩ (fun b u q => ?_) I1.bare fun b z => by simp at z
    · have zl := Heap.lt_size q
      rw [off b (fun z => absurd zl (Nat.not_lt.mpr (Nat.le_trans old (Nat.le_of_lt (hG.above b z))))) (Nat.ne_of_lt (Nat.lt_of_lt_of_le zl old))]
      exact n
    · by_cases hb : b ∈ as
      · obtain ⟨j, hj⟩ := List.mem_iff_getElem?.mp hb
        obtain ⟨x, e1, e2⟩ := eP j b hj
        rw [e2] at q
        cases q
        obtain ⟨t, v, f1, f2⟩ := hG.pairs j b hj
        obtain ⟨u, g1, g2⟩ := rv.get e1
        rw [List.getElem?_toArray, g1] at f1
        cases f1
        refine ⟨by show 2 ≤ sizeLine; decide, [.int j t, v], .cons ⟨t, ?_⟩ (.cons g2 .nil), ⟨_, f2, rfl, _, rfl⟩⟩
        rw [Nat.zero_add]
      · by_cases hb2 : b = h'.objs.size
        · rw [hb2] at q ⊢
          rw [eS] at q
          cases q
          refine ⟨by rw [List.length_map, sizeLine_eq]; omega, acc.toList, c, by rw [hacc]; exact refs_rel as, ?_⟩
          rw [Array.toArray_toList]
          exact hS
        · rw [off b hb hb2] at q
          exact (I1.hok b u q).stay (fun d v _ y => kk d v y) (fun d y => kp d _ y) fun d xs y => kp d _ y
  · obtain ⟨x, e1, e2⟩ := eP j t ht
    rw [Nat.zero_add] at e2
    exact ⟨x, e1, e2⟩
end
end GR

end

section
set_option Elab.async false
set_option linter.all false
set_option maxRecDepth 100000
set_option maxHeartbeats 2000000
/-! the program's text by its places; defs and records; what is tracked of rows, words, items -/
namespace G
open PySem PySem.Spec PyProof.Rows L2 GR
def top (i : Nat) : Stmt := PySem.Challenge.pw_glossrows_s01_answers.main.body.getD i (.Pass ⟨0, 0, 0, 0⟩)
abbrev s_Row : Stmt := inClass (top 6) 0
abbrev s_cut_at : Stmt := top 7
abbrev s_lines_of : Stmt := top 8
abbrev s_rows_of : Stmt := top 9
abbrev s_parts_of : Stmt := top 10
abbrev s_seams_of : Stmt := top 11
abbrev s_without_seams : Stmt := top 12
abbrev s_dotted_parts : Stmt := top 13
abbrev s_said_text : Stmt := top 15
abbrev s_said_item : Stmt := top 16
abbrev s_said_line : Stmt := top 17
abbrev s_Fault : Stmt := inClass (top 33) 0
abbrev s_Word : Stmt := inClass (top 34) 0
abbrev s_Item : Stmt := inClass (top 35) 0
abbrev s_entries_of : Stmt := top 36
abbrev s_free_line : Stmt := top 37
abbrev s_check_line_between : Stmt := top 38
abbrev s_words_of : Stmt := top 39
abbrev s_word_of : Stmt := top 40
abbrev s_pieces_of : Stmt := top 41
abbrev s_traits_of_words : Stmt := top 44
abbrev s_traits_of : Stmt := top 45
abbrev s_has_trait : Stmt := top 46
abbrev s_Text : Stmt := inClass (top 48) 0
abbrev s_times_of : Stmt := top 49
abbrev s_numbers_by : Stmt := top 50
abbrev s_unlike_forms : Stmt := top 51
abbrev s_has_two_glosses : Stmt := top 52
abbrev s_Parting : Stmt := inClass (top 54) 0
abbrev s_pieces_between : Stmt := top 55
abbrev s_ways_from : Stmt := top 56
abbrev s_amount_of_rows : Stmt := top 57
abbrev s_first_rows : Stmt := top 58
abbrev s_grown : Stmt := top 59
abbrev s_choices_at : Stmt := top 60
abbrev s_Step : Stmt := inClass (top 67) 0
abbrev s_Source : Stmt := inClass (top 68) 0
abbrev s_take : Stmt := inClass (top 68) 1
abbrev s_take_up_to : Stmt := inClass (top 68) 2
abbrev s_take_counted : Stmt := inClass (top 68) 3
abbrev s_steps_of : Stmt := top 69
abbrev s_step_of : Stmt := top 70
abbrev s_places_of : Stmt := top 71
abbrev s_ends_of : Stmt := top 72
abbrev s_fits : Stmt := top 73
abbrev s_Desk : Stmt := inClass (top 81) 0
abbrev s_begins : Stmt := top 82
abbrev s_read : Stmt := top 83
abbrev s_said : Stmt := top 84
abbrev s_item : Stmt := top 85
abbrev s_known : Stmt := top 86
abbrev s_piece : Stmt := top 87
abbrev s_glosses : Stmt := top 88
abbrev s_forms : Stmt := top 89
abbrev s_unlike : Stmt := top 90
abbrev s_apart : Stmt := top 91
abbrev s_find : Stmt := top 92
abbrev s_counted : Stmt := top 93
abbrev s_joined : Stmt := top 94
abbrev s_answers : Stmt := top 96
/-! ### defs -/
/-- the def x stands at f and keeps sp -/
structure Def (P : Program) (w : World) (K : PySem.W.Frag) (mg : Str → Option Value) (base : Heap) (CX : CXT) (k : Nat) (x : Str) (f : Addr) (ps : List Str) (sp : Sp) : Prop where
  ex : ∃ fd : FuncData, FnOk P w K mg base CX k f fd ps sp ∧ Binds K fd ps []
  kp : PySem.W.keepIn K (.ref f) = true
  gl : mg x = some (.ref f)
section
variable {X : Cx} {CX : CXT} {k j : Nat} {x : Str} {f : Addr} {ps : List Str} {sp : Sp} {E : XK} {p pos : Pos} {e : Expr} {es : List Expr} {t : TA}
theorem pe_def (D : Def X.prog X.w X.K X.mg X.base CX k x f ps sp) (hr : Room j X.A) (hx : Passes CX X E) (ha : PA X (e :: es) t) (hkj : k ≤ j := by decide) (hg : Gl X x := by rfl) (hdb : (x == ("__debug__" : Str)) = false := by decide)
    (he : starEach (e :: es) X.env = (false, eval e X.env) :: starEach es X.env := by rfl) (hpl : (backTo pos (starEach es X.env)).any (·.1) = false := by rfl) :
    PE X (.Call (.Name x p) (e :: es) [] pos) (fun σ H Q => t σ H fun vs H1 => sp vs H1 Q E) := by
  obtain ⟨fd, F, hb⟩ := D.ex
  have z := pe_call (pos := pos) (p := p) F (hr.mono hkj) hg D.gl D.kp hb .nil hx ha hdb he hpl
  have e0 : (tCall sp [] E t : TE) = fun σ H Q => t σ H fun vs H1 => sp vs H1 Q E := by
    funext σ H Q
    show t σ H (fun vs H1 => sp (vs ++ []) H1 Q E) = _
    congr 1
    funext vs H1
    rw [List.append_nil]
  rw [e0] at z
  exact z
end
/-! ### records: classes whose __init__ lays two fields -/
def spRec2 (C : Addr) (f g : Str) : Sp := fun vs H Q _ => ∃ (p dx : Addr) (x y : V), vs = [.ref p, x, y] ∧ H p = some (.ins C dx []) ∧ Q .non (upd H p (.ins C dx [(f, x), (g, y)]))
/-- the class x at C is a record of f and g -/
structure Rec2 (P : Program) (w : World) (K : PySem.W.Frag) (mg : Str → Option Value) (base : Heap) (x : Str) (C : Addr) (f g : Str) : Prop where
  ex : ∃ (fI : Addr) (fd : FuncData) (ps : List Str), Mk K C fI ∧ FnOk P w K mg base CX0 1 fI fd ps (spRec2 C f g) ∧ Binds K fd ps []
  cl : Cls K C
  n1 : NoAttr K C f
  n2 : NoAttr K C g
  ne : (g == f) = false
  gl : mg x = some (.ref C)
/-- a new record -/
def recH (H : Hp) (C p dx : Addr) (fs : List (Str × V)) : Hp := upd (upd H dx (.own p)) p (.ins C dx fs)
def tRec2 (C : Addr) (f g : Str) (ta tb : TE) : TE := fun σ H Q => ta σ H fun x H1 => tb σ H1 fun y H2 => ∀ p dx, H2 p = none → H2 dx = none → dx ≠ p → Q (.ref p) (recH H2 C p dx [(f, x), (g, y)])
section
variable {X : Cx} {j : Nat} {x f g : Str} {C : Addr} {p pos : Pos} {a b : Expr} {ta tb : TE}
theorem pe_rec2 (R : Rec2 X.prog X.w X.K X.mg X.base x C f g) (hr : Room j X.A) (hp : PA X [a, b] (tCons ta (tCons tb tNil))) (hj : 2 ≤ j := by decide) (hg : Gl X x := by rfl) (hdb : (x == ("__debug__" : Str)) = false := by decide)
    (he : starEach [a, b] X.env = (false, eval a X.env) :: starEach [b] X.env := by rfl) (hpl : (backTo pos (starEach [b] X.env)).any (·.1) = false := by rfl) :
    PE X (.Call (.Name x p) [a, b] [] pos) (tRec2 C f g ta tb) := by
  obtain ⟨fI, fd, ps, M, F, bi⟩ := R.ex
  have z := pe_make (pos := pos) (p := p) (E := E0) M F (hr.mono hj) hg R.gl bi .nil pass0 hp hdb he hpl
  have e0 : (tMake C (spRec2 C f g) [] E0 (tCons ta (tCons tb tNil)) : TE) = tRec2 C f g ta tb := by
    funext σ H Q
    show (ta σ H fun u H1 => tb σ H1 fun v H2 => ∀ q dx, H2 q = none → H2 dx = none → dx ≠ q →
      spRec2 C f g [.ref q, u, v] (upd (upd H2 dx (.own q)) q (.ins C dx [])) (fun r H3 => r = .non ∧ Q (.ref q) H3) E0) = _
    unfold tRec2
    congr 1
    funext u H1
    congr 1
    funext v H2
    refine propext ⟨fun h q dx n1 n2 ne => ?_, fun h q dx n1 n2 ne => ?_⟩
    · obtain ⟨q', dx', u', v', e, eh, _, r⟩ := h q dx n1 n2 ne
      simp only [List.cons.injEq, V.ref.injEq, and_true] at e
      obtain ⟨rfl, rfl, rfl⟩ := e
      rw [upd_same] at eh
      cases eh
      rw [upd_upd] at r
      exact r
    · refine ⟨q, dx, u, v, rfl, upd_same, rfl, ?_⟩
      rw [upd_upd]
      exact h q dx n1 n2 ne
  rw [e0] at z
  exact z
end
/-! ### heaps -/
theorem Same.recH {H : Hp} {C p dx : Addr} {fs : List (Str × V)} (n1 : H p = none) (n2 : H dx = none) : Same H (recH H C p dx fs) := fun b o e => by
  show upd (upd H dx (.own p)) p _ b = some o
  rw [upd_ne (ne_of_none e n1), upd_ne (ne_of_none e n2)]
  exact e
theorem Same.new {H : Hp} {p : Addr} {o : HO} (n : H p = none) : Same H (upd H p o) := fun b u e => by
  rw [upd_ne (ne_of_none e n)]
  exact e
theorem recH_at {H : Hp} {C p dx : Addr} {fs : List (Str × V)} : recH H C p dx fs p = some (.ins C dx fs) := upd_same
/-- the heap without p -/
def Off (H : Hp) (p : Addr) : Hp := fun b => if b = p then none else H b
theorem Off.same {H : Hp} {p : Addr} : Same (Off H p) H := fun b o e => by
  unfold Off at e
  by_cases h : b = p
  · rw [if_pos h] at e
    cases e
  · rw [if_neg h] at e
    exact e
theorem Off.upd {H : Hp} {p : Addr} {o : HO} : Off (upd H p o) p = Off H p := by
  funext b
  unfold Off L2.upd
  split <;> rfl
theorem Off.mono {H H' : Hp} {p : Addr} (s : Same H H') : Same (Off H p) (Off H' p) := fun b o e => by
  have e' := Off.same b o e
  unfold Off at e ⊢
  by_cases h : b = p
  · rw [if_pos h] at e
    cases e
  · rw [if_neg h]
    exact s b o e'
theorem Off.ne {H : Hp} {p b : Addr} (h : b ≠ p) : Off H p b = H b := if_neg h
theorem Off.at {H : Hp} {p : Addr} : Off H p p = none := if_pos rfl
theorem Off.old {H H' : Hp} {p : Addr} (s : Same H H') (n : H p = none) : Same H (Off H' p) := fun b o e => by
  rw [Off.ne (ne_of_none e n)]
  exact s b o e
/-- what came since H -/
def New (H H' : Hp) : Hp := fun b => if H b = none then H' b else none
theorem New.at {H H' : Hp} {b : Addr} (n : H b = none) : New H H' b = H' b := if_pos n
theorem New.inv {H H' : Hp} {b : Addr} {o : HO} (e : New H H' b = some o) : H b = none ∧ H' b = some o := by
  unfold New at e
  by_cases h : H b = none
  · rw [if_pos h] at e
    exact ⟨h, e⟩
  · rw [if_neg h] at e
    cases e
theorem New.sub {H H' : Hp} : Same (New H H') H' := fun b o e => (New.inv e).2
theorem New.mono {H H1 H2 : Hp} (s : Same H1 H2) : Same (New H H1) (New H H2) := fun b o e => by
  obtain ⟨h1, h2⟩ := New.inv e
  rw [New.at h1]
  exact s _ _ h2
theorem New.of {H H1 H2 : Hp} (s : Same H H1) : Same (New H1 H2) (New H H2) := fun b o e => by
  obtain ⟨h1, h2⟩ := New.inv e
  rw [New.at (s.free h1)]
  exact h2
theorem New.off {H H2 : Hp} {D : Addr} {o : HO} : Off (New H (upd H2 D o)) D = Off (New H H2) D := by
  funext y
  by_cases hy : y = D
  · rw [hy, Off.at, Off.at]
  · rw [Off.ne hy, Off.ne hy]
    unfold New
    rw [upd_ne hy]
/-- what came up to H3 stands behind it, apart from D that came later -/
theorem New.past {H H3 H2 : Hp} {D : Addr} (nD : H3 D = none) (s : Same H3 (Off H2 D)) : Same (New H H3) (Off (New H H2) D) := fun b o z => by
  obtain ⟨g1, g2⟩ := New.inv z
  have hb : b ≠ D := fun q => by rw [q, nD] at g2; cases g2
  rw [Off.ne hb, New.at g1]
  exact Off.same _ _ (s _ _ g2)
theorem Off.free {H H' : Hp} {p q : Addr} (s : Same H (Off H' p)) (n : H' q = none) : H q = none := (s.trans Off.same).free n
/-! ### bytes and rows -/
abbrev ni (n : Nat) : V := .int (n : Int)
def nis (l : List Nat) : List V := l.map ni
@[simp] theorem nis_length (l : List Nat) : (nis l).length = l.length := by unfold nis; exact List.length_map ..
theorem nis_get {l : List Nat} {i : Nat} {v : V} (h : (nis l)[i]? = some v) : ∃ n, l[i]? = some n ∧ v = ni n := by
  unfold nis at h
  rw [List.getElem?_map] at h
  cases e : l[i]? with
  | none =>
    rw [e] at h
    cases h
  | some n =>
    rw [e] at h
    exact ⟨n, rfl, (Option.some.inj h).symm⟩
/-- a place and bytes -/
abbrev Seg := Nat × Bytes
def RowAt (C : Addr) (H : Hp) (a : Addr) (r : Seg) : Prop := ∃ dx q, H a = some (.ins C dx [("place", ni r.1), ("signs", .ref q)]) ∧ H q = some (.lst (nis r.2))
def Rows (C : Addr) (H : Hp) (p : Addr) (rs : List Seg) : Prop := ∃ as : List Addr, H p = some (.lst (as.map V.ref)) ∧ Paired (RowAt C H) as rs
theorem RowAt.same {C : Addr} {H H' : Hp} (s : Same H H') {a : Addr} {r : Seg} (h : RowAt C H a r) : RowAt C H' a r := by
  obtain ⟨dx, q, e1, e2⟩ := h
  exact ⟨dx, q, s _ _ e1, s _ _ e2⟩
theorem Rows.same {C : Addr} {H H' : Hp} (s : Same H H') {p : Addr} {rs : List Seg} (h : Rows C H p rs) : Rows C H' p rs := by
  obtain ⟨as, e, r⟩ := h
  exact ⟨as, s _ _ e, Paired.mapP r fun _ _ z => z.same s⟩
theorem paired_snoc {α β : Type} {F : α → β → Prop} {l : List α} {m : List β} {a : α} {b : β} (h : Paired F l m) (r : F a b) : Paired F (l ++ [a]) (m ++ [b]) := paired_app h (.cons r .nil)
theorem paired_get {α β : Type} {F : α → β → Prop} : ∀ {l : List α} {m : List β} {i : Nat} {a : α}, Paired F l m → l[i]? = some a → ∃ b, m[i]? = some b ∧ F a b
  | _, _, _, _, .nil, h => by simp at h
  | _, _, 0, _, .cons r _, h => by simp at h; subst h; exact ⟨_, rfl, r⟩
  | _, _, i + 1, a, .cons _ t, h => by
    obtain ⟨b, h1, h2⟩ := paired_get (i := i) (a := a) t (by simpa using h)
    exact ⟨b, by simpa using h1, h2⟩
theorem paired_getR {α β : Type} {F : α → β → Prop} : ∀ {l : List α} {m : List β} {i : Nat} {b : β}, Paired F l m → m[i]? = some b → ∃ a, l[i]? = some a ∧ F a b
  | _, _, _, _, .nil, h => by simp at h
  | _, _, 0, _, .cons r _, h => by simp at h; subst h; exact ⟨_, rfl, r⟩
  | _, _, i + 1, a, .cons _ t, h => by
    obtain ⟨b, h1, h2⟩ := paired_getR (i := i) (b := a) t (by simpa using h)
    exact ⟨b, by simpa using h1, h2⟩
/-! ### fields -/
theorem lk1 {k : Str} {v : V} {r : List (Str × V)} : List.lookup k ((k, v) :: r) = some v := by
  have e : (k == k) = true := beq_self_eq_true k
  simp only [List.lookup, e]
theorem lk2 {k g : Str} {u v : V} {r : List (Str × V)} (h : (k == g) = false) : List.lookup k ((g, u) :: (k, v) :: r) = some v := by
  have e : (k == k) = true := beq_self_eq_true k
  simp only [List.lookup, e, h]
theorem lk3 {k f g : Str} {t u v : V} {r : List (Str × V)} (h : (k == f) = false) (h' : (k == g) = false) : List.lookup k ((f, t) :: (g, u) :: (k, v) :: r) = some v := by
  have e : (k == k) = true := beq_self_eq_true k
  simp only [List.lookup, e, h, h']
/-! ### what the top leaves of the classes and constants -/
structure Adr where
  Row : Addr
  Text : Addr
  Fault : Addr
  Word : Addr
  Item : Addr
  Desk : Addr
  Parting : Addr
  Step : Addr
  Source : Addr
  BadSteps : Addr
  fI : Addr
  SEAMS : Addr
end G

end

section
set_option Elab.async false
set_option linter.all false
set_option maxRecDepth 100000
set_option maxHeartbeats 2000000
namespace G
open PySem PySem.Spec PyProof.Rows L2 GR
theorem if_true_of {c : Bool} {A B : Prop} (hc : c = true) (h : A) : if c = true then A else B := by
  rw [if_pos hc]
  exact h
theorem if_false_of {c : Bool} {A B : Prop} (hc : c = false) (h : B) : if c = true then A else B := by
  rw [hc, if_neg Bool.false_ne_true]
  exact h
/-! ### cut_at -/
def cutF (m : Nat → Bool) : Nat → Bytes → Bytes → List Seg
  | p, had, [] => [(p - had.length, had)]
  | p, had, c :: r => if m c = true then (p - had.length, had) :: cutF m (p + 1) [] r else cutF m (p + 1) (had ++ [c]) r
def cuts (marks : Bytes) (r : Seg) : List Seg := cutF (fun c => marks.contains c) r.1 [] r.2
theorem eqV_ni (a b : Nat) : eqV (ni a) (ni b) = (a == b) := by
  show ((a : Int) == (b : Int)) = (a == b)
  by_cases h : a = b
  · rw [h, beq_self_eq_true, beq_self_eq_true]
  · have h' : ¬ (a : Int) = (b : Int) := by omega
    rw [beq_eq_false_iff_ne.mpr h, beq_eq_false_iff_ne.mpr h']
theorem inV_nis (c : Nat) : ∀ l : Bytes, inV (ni c) (nis l) = l.contains c
  | [] => rfl
  | x :: l => by
    have ih := inV_nis c l
    show (eqV (ni x) (ni c) || inV (ni c) (nis l)) = _
    rw [ih, eqV_ni, List.contains_cons, Bool.beq_comm]
theorem cutV_nis (l : Bytes) (a b : Nat) (ha : a ≤ b) (hb : b ≤ l.length) : cutV (nis l) (some (a : Int)) (some (b : Int)) = nis ((l.take b).drop a) := by
  unfold cutV
  rw [HT.sIx_nat, HT.sIx_nat, nis_length, Nat.min_eq_left (Nat.le_trans ha hb), Nat.min_eq_left hb]
  unfold nis
  rw [← List.map_drop, ← List.map_take, List.drop_take]
theorem cutV_nis_end (l : Bytes) (a : Nat) (ha : a ≤ l.length) : cutV (nis l) (some (a : Int)) none = nis (l.drop a) := by
  unfold cutV
  rw [HT.sIx_nat, HT.sIx_none, nis_length, Nat.min_eq_left ha]
  unfold nis
  rw [← List.map_drop, ← List.map_take, List.take_of_length_le (by rw [List.length_drop]; exact Nat.le_refl _)]
theorem take_succ' {l : Bytes} {i c : Nat} (h : l[i]? = some c) : l.take (i + 1) = l.take i ++ [c] := by
  rw [List.take_add_one, h]
  rfl
theorem drop_eq' {l : Bytes} {i c : Nat} (h : l[i]? = some c) : l.drop i = c :: l.drop (i + 1) := by
  obtain ⟨h1, h2⟩ := List.getElem?_eq_some_iff.mp h
  rw [List.drop_eq_getElem_cons h1, h2]
theorem nis_flat (l : Bytes) : (nis l).all flatV = true := by
  unfold nis
  rw [List.all_map]
  exact List.all_eq_true.mpr fun _ _ => rfl
/-- a new row, appended to the list at p -/
theorem row_app {H H1 H3 : Hp} {C p q x dx : Addr} {as : List Addr} {cs : List Seg} {pl : Nat} {bs : Bytes} (s1 : Same H (Off H1 p)) (hp : H1 p = some (.lst (as.map V.ref))) (pr : Paired (RowAt C (Off (New H H1) p)) as cs)
    (nq : H1 q = none) (nx : upd H1 q (.lst (nis bs)) x = none) (nd : upd H1 q (.lst (nis bs)) dx = none) (e3 : H3 = recH (upd H1 q (.lst (nis bs))) C x dx [("place", ni pl), ("signs", .ref q)]) :
    H3 p = some (.lst (as.map V.ref)) ∧ Same H (Off (upd H3 p (.lst (as.map V.ref ++ [V.ref x]))) p) ∧ upd H3 p (.lst (as.map V.ref ++ [V.ref x])) p = some (.lst ((as ++ [x]).map V.ref)) ∧
      Paired (RowAt C (Off (New H (upd H3 p (.lst (as.map V.ref ++ [V.ref x])))) p)) (as ++ [x]) (cs ++ [(pl, bs)]) := by
  have sa : Same H1 (upd H1 q (.lst (nis bs))) := Same.new nq
  have sb : Same (upd H1 q (.lst (nis bs))) H3 := by rw [e3]; exact Same.recH nx nd
  have s13 := sa.trans sb
  have hp3 := s13 _ _ hp
  rw [Off.upd]
  have sO := Off.mono (p := p) s13
  have npq : q ≠ p := fun z => by rw [z, hp] at nq; cases nq
  have npx : x ≠ p := fun z => by rw [z, sa _ _ hp] at nx; cases nx
  have fq : H q = none := Off.free s1 nq
  have fx : H x = none := Off.free s1 (sa.free nx)
  have sN : Same (Off (New H H1) p) (Off (New H (upd H3 p (.lst (as.map V.ref ++ [V.ref x])))) p) := fun b o e => by
    by_cases hb : b = p
    · rw [hb, Off.at] at e
      cases e
    · rw [Off.ne hb] at e ⊢
      obtain ⟨g1, g2⟩ := New.inv e
      rw [New.at g1, upd_ne hb]
      exact s13 _ _ g2
  refine ⟨hp3, s1.trans sO, ?_, paired_snoc (Paired.mapP pr fun _ _ z => z.same sN) ⟨dx, q, ?_, ?_⟩⟩
  · rw [upd_same, List.map_append]
    rfl
  · rw [Off.ne npx, New.at fx, upd_ne npx, e3]
    exact recH_at
  · rw [Off.ne npq, New.at fq, upd_ne npq]
    exact sb _ _ upd_same
def spCut (K : PySem.W.Frag) (A : Adr) : Sp := fun vs H Q _ => ∃ (a m : Addr) (r : Seg) (marks : Bytes), vs = [.ref a, .ref m] ∧ RowAt A.Row H a r ∧ SqT K H m (nis marks) ∧ r.2.length ≤ 7000 ∧
  ∀ H' p, Same H H' → H p = none → Rows A.Row (New H H') p (cuts marks r) → Q (.ref p) H'
section
variable {P : Program} {w : World} {K : PySem.W.Frag} {mg : Str → Option Value} {base : Heap} {A : Adr}
theorem sc_cut_at : FnScope ["row", "marks", "cuts", "start", "at", "sign"] ["row", "marks"] (defScope s_cut_at) := ⟨rfl, rfl, rfl, by decide +kernel, rfl, by decide +kernel, by decide +kernel⟩
theorem ok_cut_at {f : Addr} {fd : FuncData} (F : Fun K "cut_at" "cut_at" s_cut_at f fd) (R : Rec2 P w K mg base "Row" A.Row "place" "signs") (mE : mg "enumerate" = none) : FnOk P w K mg base CX0 3 f fd ["row", "marks"] (spCut K A) := by
  refine F.ok sc_cut_at (fun vs H Q E h => ?_) (fun cdv Ar outer s H vs Q E hr h => ?_)
  · obtain ⟨a, m, r, marks, rfl, _⟩ := h
    rfl
  refine ⟨_, pss_cons (ps_set (i := 2) sc_cut_at.nd rfl (.inl rfl) (pe_lst pa_nil))
    (pss_cons (ps_set (i := 3) sc_cut_at.nd rfl (.inl rfl) pe_int)
    (pss_cons (ps_for PassesOwn.never rfl (pi_enum (by rfl) mE (pa_cons (pe_fld (pv 0) rfl) pa_nil))
        (pg_tup rfl (pgs_cons (pg_name (i := 4) sc_cut_at.nd rfl (.inl rfl)) (pgs_cons (pg_name (i := 5) sc_cut_at.nd rfl (.inl rfl)) pgs_nil)))
      (pss_one (ps_if (pt_cmpR op_in_seq (pv 5) (pv 1) rfl)
        (pss_cons (ps_expr (pe_bm PySem.F.plainAttrs_list PySem.F.slot_list_append PySem.F.type_list_append mt_append (pv 2)
            (pa_cons (pe_rec2 R hr (pa_cons (pe_op op_add (pe_fld (pv 0) rfl) (pv 3)) (pa_cons (pe_slice sl_list (pe_fld (pv 0) rfl) (po_some (pv 3)) (po_some (pv 4))) pa_nil))) pa_nil)))
          (pss_one (ps_set (i := 3) sc_cut_at.nd rfl (.inl rfl) (pe_op op_add (pv 4) pe_int))))
        pss_nil)))
    (pss_cons (ps_expr (pe_bm PySem.F.plainAttrs_list PySem.F.slot_list_append PySem.F.type_list_append mt_append (pv 2)
            (pa_cons (pe_rec2 R hr (pa_cons (pe_op op_add (pe_fld (pv 0) rfl) (pv 3)) (pa_cons (pe_slice sl_list (pe_fld (pv 0) rfl) (po_some (pv 3)) po_none) pa_nil))) pa_nil)))
    (pss_one (ps_ret (pv 2)))))), ?_⟩
  obtain ⟨a, m, r, marks, rfl, hrow, hm, hlen, k⟩ := h
  obtain ⟨dx, q, ha, hq⟩ := id hrow
  refine ⟨Nat.zero_le _, fun p np => ?_⟩
  have sP : Same H (upd H p (.lst [])) := Same.new np
  refine ⟨_, rfl, a, A.Row, dx, _, _, rfl, sP _ _ ha, R.cl, R.n2, lk2 R.ne, q, nis r.2, rfl, .of (sP _ _ hq), ?_⟩
  refine for_it (walk_enum (K := K) (a := q) (xs := nis r.2)) (fun i σ H' => ∃ (st : Nat) (as : List Addr) (cs : List Seg) (v4 v5 : Option V),
      σ = [some (.ref a), some (.ref m), some (.ref p), some (ni st), v4, v5] ∧ Same H (Off H' p) ∧ H' p = some (.lst (as.map V.ref)) ∧ Paired (RowAt A.Row (Off (New H H') p)) as cs ∧ st ≤ i ∧ as.length ≤ i ∧
      cuts marks r = cs ++ cutF (fun c => marks.contains c) (r.1 + i) ((r.2.take i).drop st) (r.2.drop i)) ?_ ?_ ?_ ?_
  · refine ⟨0, [], [], none, none, rfl, Off.old sP np, upd_same, .nil, Nat.le_refl _, Nat.le_refl _, ?_⟩
    simp [cuts]
  · rintro i σ H' hi ⟨st, as, cs, v4, v5, _, s1, _⟩
    exact .of (Off.same _ _ (s1 _ _ hq))
  · rintro i x σ H1 H2 hi ⟨st, as, cs, v4, v5, rfl, s1, hp, pr, h1, h2, h3⟩ hy
    obtain ⟨T, x, y, rfl, nT, rfl, e1, e2⟩ := hy
    cases e1
    obtain ⟨c, hc, rfl⟩ := nis_get e2
    have sT : Same H1 (upd H1 T (.tup [.int (i : Nat), ni c])) := Same.new nT
    rw [nis_length] at hi
    have sO := Off.mono (p := p) sT
    have s2 := s1.trans sO
    have old : ∀ {b o}, H b = some o → upd H1 T (.tup [.int (i : Nat), ni c]) b = some o := fun e => Off.same _ _ (s2 _ _ e)
    have hm2 : SqT K (upd H1 T (.tup [.int (i : Nat), ni c])) m (nis marks) := by
      rcases hm with (h | ⟨o, h⟩) | h
      · exact .inl (.inl (old h))
      · exact .inl (.inr ⟨o, old h⟩)
      · exact .inr h
    refine ⟨T, _, rfl, .of upd_same, rfl, _, _, rfl, _, _, rfl, rfl, ?_⟩
    refine ⟨_, rfl, _, rfl, m, _, rfl, .inr hm2, rfl, nis_flat _, _, rfl, ?_⟩
    rw [inV_nis]
    have e3 : cuts marks r = cs ++ cutF (fun c => marks.contains c) (r.1 + i) ((r.2.take i).drop st) (c :: r.2.drop (i + 1)) := by rw [← drop_eq' hc]; exact h3
    have hp2 := sT _ _ hp
    have pr2 : Paired (RowAt A.Row (Off (New H (upd H1 T (.tup [.int (i : Nat), ni c]))) p)) as cs := Paired.mapP pr fun _ _ z => z.same (Off.mono (New.mono sT))
    generalize upd H1 T (.tup [.int (i : Nat), ni c]) = H2 at *
    by_cases hmk : marks.contains c = true
    · refine if_true_of hmk ?_
      refine ⟨_, rfl, .inl ⟨rfl, _, .of hp2⟩, ?_⟩
      refine ⟨_, rfl, a, A.Row, dx, _, _, rfl, old ha, R.cl, R.n1, lk1, _, rfl, _, _, rfl, rfl, ?_⟩
      refine ⟨_, rfl, a, A.Row, dx, _, _, rfl, old ha, R.cl, R.n2, lk2 R.ne, _, rfl, _, rfl, _, rfl, _, rfl, q, _, rfl, .of (old hq), fun q2 nq2 => ?_⟩
      intro x dx2 nx nd2 ne
      rw [cutV_nis _ _ _ h1 (Nat.le_of_lt hi)] at nx nd2 ⊢
      obtain ⟨g1, g2, g3, g4⟩ := row_app (pl := r.1 + st) s2 hp2 pr2 nq2 nx nd2 rfl
      refine ⟨p, _, _, rfl, rfl, g1, ?_, ?_⟩
      · rw [List.length_map, sizeLine_eq]
        omega
      refine ⟨_, rfl, _, _, rfl, rfl, ?_⟩
      refine ⟨i + 1, as ++ [x], _, _, _, rfl, g2, g3, g4, Nat.le_refl _, ?_, ?_⟩
      · rw [List.length_append]
        exact Nat.add_le_add_right h2 1
      · rw [e3]
        show cs ++ (if marks.contains c = true then _ else _) = _
        rw [if_pos hmk, List.append_assoc]
        have l1 : ((r.2.take i).drop st).length = i - st := by rw [List.length_drop, List.length_take, Nat.min_eq_left (Nat.le_of_lt hi)]
        have l2 : r.1 + i - ((r.2.take i).drop st).length = r.1 + st := by rw [l1]; omega
        have l3 : (r.2.take (i + 1)).drop (i + 1) = [] := List.drop_eq_nil_of_le (by rw [List.length_take]; omega)
        rw [l2, l3]
        rfl
    · refine if_false_of (Bool.not_eq_true _ ▸ hmk) ?_
      refine ⟨st, as, cs, _, _, rfl, s2, hp2, pr2, Nat.le_succ_of_le h1, Nat.le_succ_of_le h2, ?_⟩
      rw [e3]
      show cs ++ (if marks.contains c = true then _ else _) = _
      rw [if_neg hmk, take_succ' hc, List.drop_append_of_le_length (by rw [List.length_take]; omega)]
      rfl
  · rintro σ H1 ⟨st, as, cs, v4, v5, rfl, s1, hp, pr, h1, h2, h3⟩
    rw [nis_length] at h1 h2 h3
    have old : ∀ {b o}, H b = some o → H1 b = some o := fun e => Off.same _ _ (s1 _ _ e)
    refine ⟨_, rfl, .inl ⟨rfl, _, .of hp⟩, ?_⟩
    refine ⟨_, rfl, a, A.Row, dx, _, _, rfl, old ha, R.cl, R.n1, lk1, _, rfl, _, _, rfl, rfl, ?_⟩
    refine ⟨_, rfl, a, A.Row, dx, _, _, rfl, old ha, R.cl, R.n2, lk2 R.ne, _, rfl, _, rfl, q, _, rfl, .of (old hq), fun q2 nq2 => ?_⟩
    intro x dx2 nx nd2 ne
    rw [cutV_nis_end _ _ h1] at nx nd2 ⊢
    obtain ⟨g1, g2, g3, g4⟩ := row_app (pl := r.1 + st) s1 hp pr nq2 nx nd2 rfl
    refine ⟨p, _, _, rfl, rfl, g1, ?_, ?_⟩
    · rw [List.length_map, sizeLine_eq]
      omega
    refine ⟨_, rfl, k _ p (g2.trans Off.same) np ⟨as ++ [x], (New.at np).trans g3, ?_⟩⟩
    rw [h3, List.take_length, List.drop_length]
    have e : cutF (fun c => marks.contains c) (r.1 + r.2.length) (r.2.drop st) [] = [(r.1 + st, r.2.drop st)] := by
      show [(r.1 + r.2.length - (r.2.drop st).length, r.2.drop st)] = _
      rw [List.length_drop, show r.1 + r.2.length - (r.2.length - st) = r.1 + st by omega]
    rw [e]
    exact Paired.mapP g4 fun _ _ z => z.same Off.same
end
end G

end

section
set_option Elab.async false
set_option linter.all false
set_option maxRecDepth 100000
set_option maxHeartbeats 2000000
namespace G
open PySem PySem.Spec PyProof.Rows L2 GR
/-- lists of bytes -/
def BLs (H : Hp) (p : Addr) (ls : List Bytes) : Prop := ∃ qs : List Addr, H p = some (.lst (qs.map V.ref)) ∧ Paired (fun q l => H q = some (.lst (nis l))) qs ls
theorem BLs.same {H H' : Hp} (s : Same H H') {p : Addr} {ls : List Bytes} (h : BLs H p ls) : BLs H' p ls := by
  obtain ⟨qs, e, r⟩ := h
  exact ⟨qs, s _ _ e, Paired.mapP r fun _ _ z => s _ _ z⟩
theorem cutF_length (m : Nat → Bool) : ∀ (l : Bytes) (p : Nat) (had : Bytes), (cutF m p had l).length ≤ l.length + 1
  | [], _, _ => Nat.le_refl _
  | c :: r, p, had => by
    show (if m c = true then (p - had.length, had) :: cutF m (p + 1) [] r else cutF m (p + 1) (had ++ [c]) r).length ≤ _
    split
    · exact Nat.succ_le_succ (cutF_length m r _ _)
    · exact Nat.le_succ_of_le (cutF_length m r _ _)
theorem cutF_sub (m : Nat → Bool) : ∀ (l : Bytes) (p : Nat) (had : Bytes) (x : Seg), x ∈ cutF m p had l → x.2.length ≤ had.length + l.length
  | [], _, had, x, h => by
    rw [List.mem_singleton.mp h]
    exact Nat.le_add_right _ _
  | c :: r, p, had, x, h => by
    have h : x ∈ (if m c = true then (p - had.length, had) :: cutF m (p + 1) [] r else cutF m (p + 1) (had ++ [c]) r) := h
    split at h
    · rcases List.mem_cons.mp h with rfl | h
      · exact Nat.le_add_right _ _
      · have := cutF_sub m r _ _ x h
        simp only [List.length_nil, List.length_cons] at this ⊢
        omega
    · have := cutF_sub m r _ _ x h
      simp only [List.length_append, List.length_cons, List.length_nil] at this ⊢
      omega
theorem cuts_length (marks : Bytes) (r : Seg) : (cuts marks r).length ≤ r.2.length + 1 := cutF_length _ _ _ _
theorem cuts_sub {marks : Bytes} {r x : Seg} (h : x ∈ cuts marks r) : x.2.length ≤ r.2.length := by
  have := cutF_sub _ _ _ _ x h
  simpa using this
abbrev rowsOf (r : Seg) : List Seg := (cuts [32] r).filter fun x => decide (0 < x.2.length)
abbrev SEAMB : Bytes := [45, 61, 126]
abbrev seamP (c : Nat) : Bool := SEAMB.contains c
def spLines (A : Adr) : Sp := fun vs H Q _ => ∃ (q : Addr) (t : Bytes), vs = [.ref q] ∧ H q = some (.lst (nis t)) ∧ t.length ≤ 7000 ∧
  ∀ H' p, Same H H' → H p = none → Rows A.Row (New H H') p (cuts [10] (0, t)).dropLast → Q (.ref p) H'
def spRowsOf (A : Adr) : Sp := fun vs H Q _ => ∃ (a : Addr) (r : Seg), vs = [.ref a] ∧ RowAt A.Row H a r ∧ r.2.length ≤ 7000 ∧
  ∀ H' p, Same H H' → H p = none → Rows A.Row (New H H') p (rowsOf r) → Q (.ref p) H'
def spParts (A : Adr) : Sp := fun vs H Q _ => ∃ (a : Addr) (r : Seg), vs = [.ref a] ∧ RowAt A.Row H a r ∧ r.2.length ≤ 7000 ∧
  ∀ H' p, Same H H' → H p = none → BLs (New H H') p ((cuts SEAMB r).map (·.2)) → Q (.ref p) H'
def spFilter (A : Adr) (f : Nat → Bool) : Sp := fun vs H Q _ => ∃ (a : Addr) (r : Seg), vs = [.ref a] ∧ RowAt A.Row H a r ∧ r.2.length ≤ 7000 ∧
  ∀ H' p, Same H H' → H p = none → H' p = some (.lst (nis (r.2.filter f))) → Q (.ref p) H'
theorem paired_drop {α β : Type} {F : α → β → Prop} : ∀ {l : List α} {m : List β}, Paired F l m → Paired F l.dropLast m.dropLast
  | _, _, .nil => .nil
  | _, _, .cons _ .nil => .nil
  | _, _, .cons r (.cons r' t) => .cons r (paired_drop (.cons r' t))
theorem cutV_dropLast (xs : List V) : cutV xs none (some (-1)) = xs.dropLast := by
  unfold cutV
  rw [HT.sIx_none, List.drop_zero, List.dropLast_eq_take]
  have e : HT.sIx xs.length xs.length (some (-1)) = ((-1 : Int) + (xs.length : Int)).toNat := by
    unfold HT.sIx
    exact if_pos (by decide)
  rw [e, Nat.sub_zero]
  congr 1
  omega
/-- len's reading -/
abbrev rLen (K : PySem.W.Frag) : List V → Hp → VK → Prop := fun xs H Q => ∃ p ys, xs = [.ref p] ∧ (SqL K H p ys ∨ SqT K H p ys) ∧ Q (.int ys.length) H
abbrev rGtI : R2 := rI0 fun i j => .bl (decide (j < i))
section
variable {P : Program} {w : World} {K : PySem.W.Frag} {mg : Str → Option Value} {base : Heap} {A : Adr} {fC : Addr}
theorem sc_lines_of : FnScope ["text"] ["text"] (defScope s_lines_of) := ⟨rfl, rfl, rfl, by decide +kernel, rfl, by decide +kernel, by decide +kernel⟩
theorem ok_lines_of {f : Addr} {fd : FuncData} (F : Fun K "lines_of" "lines_of" s_lines_of f fd) (R : Rec2 P w K mg base "Row" A.Row "place" "signs") (D : Def P w K mg base CX0 3 "cut_at" fC ["row", "marks"] (spCut K A))
    {t10 : Tok} (mL : mg "LINE_END" = some (.int 10 t10)) : FnOk P w K mg base CX0 4 f fd ["text"] (spLines A) := by
  refine F.ok sc_lines_of (fun vs H Q E h => ?_) (fun cdv Ar outer s H vs Q E hr h => ?_)
  · obtain ⟨q, t, rfl, _⟩ := h
    rfl
  refine ⟨_, pss_one (ps_ret (pe_slice sl_list (pe_def D hr pass0 (pa_cons (pe_rec2 R hr (pa_cons pe_int (pa_cons (pv 0) pa_nil)))
    (pa_cons (pe_tup (pa_cons (pe_glob (v := .int 10) rfl mL ⟨_, rfl⟩) pa_nil)) pa_nil))) po_none (po_some (pe_un un_neg pe_int)))), ?_⟩
  obtain ⟨q, t, rfl, hq, hl, k⟩ := h
  refine ⟨_, rfl, fun x dx nx nd ne => ?_⟩
  refine ⟨by show 1 ≤ sizeLine; decide, fun T nT => ?_⟩
  have s1 : Same H (recH H A.Row x dx [("place", .int 0), ("signs", .ref q)]) := Same.recH nx nd
  have s2 := s1.trans (Same.new (o := .tup [.int 10]) nT)
  refine ⟨x, T, (0, t), [10], rfl, ⟨dx, q, (Same.new nT) _ _ recH_at, s2 _ _ hq⟩, .of upd_same, hl, fun H3 p s3 np hR => ?_⟩
  have s03 := s2.trans s3
  obtain ⟨as, e, pr⟩ := hR
  refine ⟨_, rfl, _, rfl, p, _, rfl, .of (New.sub _ _ e), fun p2 np2 => ?_⟩
  have s4 : Same H3 (upd H3 p2 (.lst (cutV (as.map V.ref) none (some (-1))))) := Same.new np2
  refine k _ p2 (s03.trans s4) (s03.free np2) ⟨as.dropLast, ?_, paired_drop (Paired.mapP pr fun _ _ z => z.same ((New.of s2).trans (New.mono s4)))⟩
  rw [New.at (s03.free np2), upd_same, cutV_dropLast, List.map_dropLast]
theorem sc_rows_of : FnScope ["line", "row"] ["line"] (defScope s_rows_of) := ⟨rfl, rfl, rfl, by decide +kernel, rfl, by decide +kernel, by decide +kernel⟩
theorem ok_rows_of {f : Addr} {fd : FuncData} (F : Fun K "rows_of" "rows_of" s_rows_of f fd) (R : Rec2 P w K mg base "Row" A.Row "place" "signs") (D : Def P w K mg base CX0 3 "cut_at" fC ["row", "marks"] (spCut K A))
    {t32 : Tok} (mB : mg "BLANK" = some (.int 32 t32)) (mLen : mg "len" = none) : FnOk P w K mg base CX0 4 f fd ["line"] (spRowsOf A) := by
  refine F.ok sc_rows_of (fun vs H Q E h => ?_) (fun cdv Ar outer s H vs Q E hr h => ?_)
  · obtain ⟨a, r, rfl, _⟩ := h
    rfl
  refine ⟨_, pss_one (ps_ret (pe_lc (own := [("row", 1)]) (g := gName 1) (tt := tTest (tOp rGtI (tCB (rLen K) (tCons (tFld K (tVar 1) "signs") tNil)) (tC (.int 0)))) (te := tVar 1) rfl sc_rows_of.nd
      (pi_list (pe_def D hr pass0 (pa_cons (pv 0) (pa_cons (pe_tup (pa_cons (pe_glob (v := .int 32) rfl mB ⟨_, rfl⟩) pa_nil)) pa_nil))))
      (blkOk_by (N := ["line", "row"]) (sc := defScope s_rows_of) (by decide +kernel))
      (fun _ _ _ _ _ => pg_name (i := 1) sc_rows_of.nd rfl (Or.inl rfl))
      (fun _ _ _ _ _ => pts_one (by exact (pt_cmpR op_gt (pe_callB call_len_seq (by rfl) mLen PySem.boot_len (by exact (pa_cons (pe_fld (pv 1) rfl) pa_nil))) pe_int (nomark _))))
      (fun _ _ _ _ _ => pv 1))), ?_⟩
  obtain ⟨a, r, rfl, hrow, hl, k⟩ := h
  refine ⟨_, rfl, by show 1 ≤ sizeLine; decide, fun T nT => ?_⟩
  have s1 : Same H (upd H T (.tup [.int 32])) := Same.new nT
  refine ⟨a, T, r, [32], rfl, hrow.same s1, .of upd_same, hl, fun H3 p s3 np hR => ?_⟩
  have s03 := s1.trans s3
  obtain ⟨as, e, pr⟩ := hR
  have e := New.sub _ _ e
  have pr := Paired.mapP pr (G := RowAt A.Row (New H H3)) fun _ _ z => z.same (New.of s1)
  refine ⟨p, rfl, ⟨_, .of e⟩, fun D nD => ?_⟩
  have s4 : Same H3 (upd H3 D (.lst [])) := Same.new nD
  have lp := Paired.length pr
  have lc := cuts_length [32] r
  have fD : H D = none := s03.free nD
  refine lc_it (walk_list (K := K) (a := p) (xs := as.map V.ref)) (fun i H' => ∃ bs : List Addr, Same H3 (Off H' D) ∧ H' D = some (.lst (bs.map V.ref)) ∧ bs.length ≤ i ∧
    Paired (RowAt A.Row (Off (New H H') D)) bs (((cuts [32] r).take i).filter fun x => decide (0 < x.2.length))) ?_ ?_ ?_ ?_
  · exact ⟨[], Off.old s4 nD, upd_same, Nat.le_refl _, .nil⟩
  · rintro i H' hi ⟨bs, s5, _⟩
    exact .of (Off.same _ _ (s5 _ _ e))
  · rintro i x H1 H2 hi ⟨bs, s5, hD, hb, pb⟩ ⟨rfl, hx⟩
    rw [List.length_map] at hi
    rw [List.getElem?_map] at hx
    obtain ⟨b, hb1, rfl⟩ := Option.map_eq_some_iff.mp hx
    obtain ⟨sg, hs1, hs2⟩ := paired_get pr hb1
    have sN : Same (New H H3) (Off (New H H2) D) := New.past nD s5
    have hs3 := hs2.same sN
    obtain ⟨dx, q, e1, e2⟩ := hs3.same (Off.same.trans New.sub)
    refine ⟨rfl, ?_⟩
    refine ⟨_, rfl, b, A.Row, dx, _, _, rfl, e1, R.cl, R.n2, lk2 R.ne, q, _, rfl, .inl (.of e2), _, _, rfl, rfl, _, rfl, ?_⟩
    have tk : (cuts [32] r).take (i + 1) = (cuts [32] r).take i ++ [sg] := by rw [List.take_add_one, hs1]; rfl
    rw [nis_length]
    by_cases hz : 0 < sg.2.length
    · refine if_true_of (decide_eq_true (by omega)) ?_
      refine ⟨_, rfl, _, hD, ?_, bs ++ [b], ?_, ?_, ?_, ?_⟩
      · rw [List.length_map, sizeLine_eq]
        omega
      · rw [Off.upd]
        exact s5
      · rw [upd_same, List.map_append]
        rfl
      · rw [List.length_append]
        exact Nat.add_le_add_right hb 1
      · rw [New.off, tk, List.filter_append, List.filter_cons_of_pos (by simpa using hz)]
        exact paired_snoc pb hs3
    · refine if_false_of (decide_eq_false (by omega)) ?_
      refine ⟨bs, s5, hD, Nat.le_succ_of_le hb, ?_⟩
      rw [tk, List.filter_append, List.filter_cons_of_neg (by simpa using hz), List.filter_nil, List.append_nil]
      exact pb
  · rintro H' ⟨bs, s5, hD, hb, pb⟩
    rw [List.length_map, lp, List.take_length] at pb
    exact k _ D ((s03.trans s5).trans Off.same) fD ⟨bs, (New.at fD).trans hD, Paired.mapP pb fun _ _ z => z.same Off.same⟩
end
end G

end

section
set_option Elab.async false
set_option linter.all false
set_option maxRecDepth 100000
set_option maxHeartbeats 2000000
namespace G
open PySem PySem.Spec PyProof.Rows L2 GR
section
variable {P : Program} {w : World} {K : PySem.W.Frag} {mg : Str → Option Value} {base : Heap} {A : Adr} {fC : Addr}
theorem yes_of {te : TE} {σ : L2.St} {H : Hp} {R : VK} {N : Hp → Prop} (h : te σ H R) : tYes σ H fun b H3 => if b = true then te σ H3 R else N H3 := by
  show if true = true then te σ H R else N H
  rw [if_pos rfl]
  exact h
/-- the module's constant SEAMS -/
structure SeamsAt (K : PySem.W.Frag) (mg : Str → Option Value) (a : Addr) : Prop where
  gl : mg "SEAMS" = some (.ref a)
  sq : ∀ H : Hp, SqT K H a (nis SEAMB)
theorem sc_parts_of : FnScope ["row", "part"] ["row"] (defScope s_parts_of) := ⟨rfl, rfl, rfl, by decide +kernel, rfl, by decide +kernel, by decide +kernel⟩
theorem ok_parts_of {f : Addr} {fd : FuncData} (F : Fun K "parts_of" "parts_of" s_parts_of f fd) (R : Rec2 P w K mg base "Row" A.Row "place" "signs") (D : Def P w K mg base CX0 3 "cut_at" fC ["row", "marks"] (spCut K A))
    (S : SeamsAt K mg A.SEAMS) : FnOk P w K mg base CX0 4 f fd ["row"] (spParts A) := by
  refine F.ok sc_parts_of (fun vs H Q E h => ?_) (fun cdv Ar outer s H vs Q E hr h => ?_)
  · obtain ⟨a, r, rfl, _⟩ := h
    rfl
  refine ⟨_, pss_one (ps_ret (pe_lc (own := [("part", 1)]) (g := gName 1) (tt := tYes) (te := tFld K (tVar 1) "signs") rfl sc_parts_of.nd
      (pi_list (pe_def D hr pass0 (pa_cons (pv 0) (pa_cons (pe_glob (v := .ref A.SEAMS) rfl S.gl rfl) pa_nil))))
      (blkOk_by (N := ["row", "part"]) (sc := defScope s_parts_of) (by decide +kernel))
      (fun _ _ _ _ _ => pg_name (i := 1) sc_parts_of.nd rfl (Or.inl rfl))
      (fun _ _ _ _ _ => pts_nil)
      (fun _ _ _ _ _ => by exact (pe_fld (pv 1) rfl)))), ?_⟩
  obtain ⟨a, r, rfl, hrow, hl, k⟩ := h
  refine ⟨_, rfl, a, A.SEAMS, r, SEAMB, rfl, hrow, S.sq _, hl, fun H3 p s3 np hR => ?_⟩
  obtain ⟨as, e, pr⟩ := hR
  have e := New.sub _ _ e
  refine ⟨p, rfl, ⟨_, .of e⟩, fun D nD => ?_⟩
  have s4 : Same H3 (upd H3 D (.lst [])) := Same.new nD
  have lp := Paired.length pr
  have lc := cuts_length SEAMB r
  have fD : H D = none := s3.free nD
  refine lc_it (walk_list (K := K) (a := p) (xs := as.map V.ref)) (fun i H' => ∃ bs : List Addr, Same H3 (Off H' D) ∧ H' D = some (.lst (bs.map V.ref)) ∧ bs.length ≤ i ∧
    Paired (fun q l => Off (New H H') D q = some (.lst (nis l))) bs (((cuts SEAMB r).take i).map (·.2))) ?_ ?_ ?_ ?_
  · exact ⟨[], Off.old s4 nD, upd_same, Nat.le_refl _, .nil⟩
  · rintro i H' hi ⟨bs, s5, _⟩
    exact .of (Off.same _ _ (s5 _ _ e))
  · rintro i x H1 H2 hi ⟨bs, s5, hD, hb, pb⟩ ⟨rfl, hx⟩
    rw [List.length_map] at hi
    rw [List.getElem?_map] at hx
    obtain ⟨b, hb1, rfl⟩ := Option.map_eq_some_iff.mp hx
    obtain ⟨sg, hs1, hs2⟩ := paired_get pr hb1
    obtain ⟨dx, q, e1, e2⟩ := hs2.same (New.past nD s5)
    refine ⟨rfl, yes_of ?_⟩
    refine ⟨_, rfl, b, A.Row, dx, _, _, rfl, (Off.same.trans New.sub) _ _ e1, R.cl, R.n2, lk2 R.ne, _, hD, ?_, bs ++ [q], ?_, ?_, ?_, ?_⟩
    · rw [List.length_map, sizeLine_eq]
      omega
    · rw [Off.upd]
      exact s5
    · rw [upd_same, List.map_append]
      rfl
    · rw [List.length_append]
      exact Nat.add_le_add_right hb 1
    · rw [New.off, List.take_add_one, hs1, List.map_append]
      exact paired_snoc pb e2
  · rintro H' ⟨bs, s5, hD, hb, pb⟩
    rw [List.length_map, lp, List.take_length] at pb
    exact k _ D ((s3.trans s5).trans Off.same) fD ⟨bs, (New.at fD).trans hD, Paired.mapP pb fun _ _ z => Off.same _ _ z⟩
theorem sc_seams_of : FnScope ["row", "sign"] ["row"] (defScope s_seams_of) := ⟨rfl, rfl, rfl, by decide +kernel, rfl, by decide +kernel, by decide +kernel⟩
theorem ok_seams_of {f : Addr} {fd : FuncData} (F : Fun K "seams_of" "seams_of" s_seams_of f fd) (R : Rec2 P w K mg base "Row" A.Row "place" "signs") (S : SeamsAt K mg A.SEAMS) :
    FnOk P w K mg base CX0 4 f fd ["row"] (spFilter A seamP) := by
  refine F.ok sc_seams_of (fun vs H Q E h => ?_) (fun cdv Ar outer s H vs Q E hr h => ?_)
  · obtain ⟨a, r, rfl, _⟩ := h
    rfl
  refine ⟨_, pss_one (ps_ret (pe_lc (own := [("sign", 1)]) (g := gName 1) (tt := tTest (tOp (rIn K false) (tVar 1) (tC (.ref A.SEAMS)))) (te := tVar 1) rfl sc_seams_of.nd
      (pi_list (pe_fld (pv 0) rfl))
      (blkOk_by (N := ["row", "sign"]) (sc := defScope s_seams_of) (by decide +kernel))
      (fun _ _ _ _ _ => pg_name (i := 1) sc_seams_of.nd rfl (Or.inl rfl))
      (fun _ _ _ _ _ => pts_one (by exact (pt_cmpR op_in_seq (pv 1) (pe_glob (v := .ref A.SEAMS) rfl S.gl rfl) rfl)))
      (fun _ _ _ _ _ => pv 1))), ?_⟩
  obtain ⟨a, r, rfl, ⟨dx, q, ha, hq⟩, hl, k⟩ := h
  refine ⟨_, rfl, a, A.Row, dx, _, _, rfl, ha, R.cl, R.n2, lk2 R.ne, q, rfl, ⟨_, .of hq⟩, fun D nD => ?_⟩
  have s4 : Same H (upd H D (.lst [])) := Same.new nD
  refine lc_it (walk_list (K := K) (a := q) (xs := nis r.2)) (fun i H' => Same H (Off H' D) ∧ H' D = some (.lst (nis ((r.2.take i).filter seamP)))) ?_ ?_ ?_ ?_
  · exact ⟨Off.old s4 nD, upd_same⟩
  · rintro i H' hi ⟨s5, _⟩
    exact .of (Off.same _ _ (s5 _ _ hq))
  · rintro i x H1 H2 hi ⟨s5, hD⟩ ⟨rfl, hx⟩
    obtain ⟨c, hc, rfl⟩ := nis_get hx
    have lt : ((r.2.take i).filter seamP).length ≤ 7000 := Nat.le_trans (List.length_filter_le _ _) (by rw [List.length_take]; omega)
    refine ⟨rfl, _, rfl, A.SEAMS, _, rfl, .inr (S.sq _), rfl, nis_flat _, _, rfl, ?_⟩
    show if inV (ni c) (nis SEAMB) = true then _ else _
    rw [inV_nis, take_succ' hc, List.filter_append]
    by_cases hz : seamP c = true
    · refine if_true_of hz ⟨_, rfl, _, hD, ?_, ?_, ?_⟩
      · rw [nis_length, sizeLine_eq]
        omega
      · rw [Off.upd]
        exact s5
      · rw [upd_same, List.filter_cons_of_pos hz, List.filter_nil]
        unfold nis
        rw [List.map_append]
        rfl
    · refine if_false_of (Bool.not_eq_true _ ▸ hz) ⟨s5, ?_⟩
      rw [List.filter_cons_of_neg hz, List.filter_nil, List.append_nil]
      exact hD
  · rintro H' ⟨s5, hD⟩
    rw [nis_length, List.take_length] at hD
    exact k _ D (s5.trans Off.same) nD hD
theorem sc_without_seams : FnScope ["row", "sign"] ["row"] (defScope s_without_seams) := ⟨rfl, rfl, rfl, by decide +kernel, rfl, by decide +kernel, by decide +kernel⟩
theorem ok_without_seams {f : Addr} {fd : FuncData} (F : Fun K "without_seams" "without_seams" s_without_seams f fd) (R : Rec2 P w K mg base "Row" A.Row "place" "signs") (S : SeamsAt K mg A.SEAMS) :
    FnOk P w K mg base CX0 4 f fd ["row"] (spFilter A fun c => !seamP c) := by
  refine F.ok sc_without_seams (fun vs H Q E h => ?_) (fun cdv Ar outer s H vs Q E hr h => ?_)
  · obtain ⟨a, r, rfl, _⟩ := h
    rfl
  refine ⟨_, pss_one (ps_ret (pe_lc (own := [("sign", 1)]) (g := gName 1) (tt := tTest (tOp (rIn K true) (tVar 1) (tC (.ref A.SEAMS)))) (te := tVar 1) rfl sc_without_seams.nd
      (pi_list (pe_fld (pv 0) rfl))
      (blkOk_by (N := ["row", "sign"]) (sc := defScope s_without_seams) (by decide +kernel))
      (fun _ _ _ _ _ => pg_name (i := 1) sc_without_seams.nd rfl (Or.inl rfl))
      (fun _ _ _ _ _ => pts_one (by exact (pt_cmpR op_notIn_seq (pv 1) (pe_glob (v := .ref A.SEAMS) rfl S.gl rfl) rfl)))
      (fun _ _ _ _ _ => pv 1))), ?_⟩
  obtain ⟨a, r, rfl, ⟨dx, q, ha, hq⟩, hl, k⟩ := h
  refine ⟨_, rfl, a, A.Row, dx, _, _, rfl, ha, R.cl, R.n2, lk2 R.ne, q, rfl, ⟨_, .of hq⟩, fun D nD => ?_⟩
  have s4 : Same H (upd H D (.lst [])) := Same.new nD
  refine lc_it (walk_list (K := K) (a := q) (xs := nis r.2)) (fun i H' => Same H (Off H' D) ∧ H' D = some (.lst (nis ((r.2.take i).filter fun c => !seamP c)))) ?_ ?_ ?_ ?_
  · exact ⟨Off.old s4 nD, upd_same⟩
  · rintro i H' hi ⟨s5, _⟩
    exact .of (Off.same _ _ (s5 _ _ hq))
  · rintro i x H1 H2 hi ⟨s5, hD⟩ ⟨rfl, hx⟩
    obtain ⟨c, hc, rfl⟩ := nis_get hx
    have lt : ((r.2.take i).filter fun c => !seamP c).length ≤ 7000 := Nat.le_trans (List.length_filter_le _ _) (by rw [List.length_take]; omega)
    refine ⟨rfl, _, rfl, A.SEAMS, _, rfl, .inr (S.sq _), rfl, nis_flat _, _, rfl, ?_⟩
    show if (!inV (ni c) (nis SEAMB)) = true then _ else _
    rw [inV_nis, take_succ' hc, List.filter_append]
    by_cases hz : (!seamP c) = true
    · refine if_true_of hz ⟨_, rfl, _, hD, ?_, ?_, ?_⟩
      · rw [nis_length, sizeLine_eq]
        omega
      · rw [Off.upd]
        exact s5
      · rw [upd_same, List.filter_cons_of_pos (p := fun c => !seamP c) hz, List.filter_nil]
        unfold nis
        rw [List.map_append]
        rfl
    · refine if_false_of (Bool.not_eq_true _ ▸ hz) ⟨s5, ?_⟩
      rw [List.filter_cons_of_neg (p := fun c => !seamP c) hz, List.filter_nil, List.append_nil]
      exact hD
  · rintro H' ⟨s5, hD⟩
    rw [nis_length, List.take_length] at hD
    exact k _ D (s5.trans Off.same) nD hD
end
end G

end

section
set_option Elab.async false
set_option linter.all false
set_option maxRecDepth 100000
set_option maxHeartbeats 2000000
namespace G
open PySem PySem.Spec PyProof.Rows L2 GR
/-! ### Fault -/
def upA (t : TA) : TA := fun σ H Q => ∃ Q', t σ H Q' ∧ ∀ vs H', Q' vs H' → Q vs H'
theorem pa_up {X : Cx} {es : List Expr} {t : TA} (h : PA X es t) : PA X es (upA t) := by
  refine ⟨fun pos pins s σ H Q I hw => ?_⟩
  obtain ⟨Q', h1, h2⟩ := hw
  refine thn (h.run pos pins s σ H Q' I h1) fun us s1 hh => ?_
  obtain ⟨vs, H1, I1, r, q⟩ := hh
  exact ⟨vs, H1, I1, r, h2 _ _ q⟩
def two (f : V → V → Prop) : List V → Prop
  | [x, y] => f x y
  | _ => False
theorem two_inv {f : V → V → Prop} : ∀ {vs : List V}, two f vs → ∃ x y, vs = [x, y] ∧ f x y
  | [x, y], h => ⟨x, y, rfl, h⟩
  | [], h => h.elim
  | [_], h => h.elim
  | _ :: _ :: _ :: _, h => h.elim
def spFI (C : Addr) : Sp := fun vs H Q _ => ∃ (a : Addr) (x y : V), vs = [.ref a, x, y] ∧ H a = some (exo a C none) ∧
  ∀ dx, H dx = none → dx ≠ a → Q .non (upd (upd (upd H dx (exd dx [("kind", x)])) a (exo a C (some dx))) dx (exd dx [("place", y), ("kind", x)]))
structure FltT (P : Program) (w : World) (K : PySem.W.Frag) (mg : Str → Option Value) (base : Heap) (C : Addr) : Prop where
  xc : XcC K C
  xf : XfC K C
  nk : PySem.W.findIn K (.ref C) "kind" = some none
  np : PySem.W.findIn K (.ref C) "place" = some none
  gl : mg "Fault" = some (.ref C)
  te : PySem.W.exmOne K (.ref C) (.ref C) = some true
  ex : ∃ (fI : Addr) (fd : FuncData), PySem.W.findIn K (.ref C) "__init__" = some (some (.ref fI)) ∧ PySem.W.typeIn K (.ref fI) = some (.type "function") ∧
    FnOk P w K mg base CX0 1 fI fd ["self", "kind", "place"] (spFI C) ∧ Binds K fd ["self", "kind", "place"] []
def fltFs (x y : V) : List (Str × V) := [("place", y), ("kind", x)]
def tMkFlt (C : Addr) (ta tb : TE) : L2.St → Hp → XK → Prop := fun σ H Q => ta σ H fun x H1 => tb σ H1 fun y H2 => ∀ d, H2 d = none → Q (.ref C) (some d) (upd H2 d (.xd (fltFs x y)))
section
variable {P : Program} {w : World} {K : PySem.W.Frag} {mg : Str → Option Value} {base : Heap}
theorem sc_Fault : FnScope ["self", "kind", "place"] ["self", "kind", "place"] (defScope s_Fault) := ⟨rfl, rfl, rfl, by decide +kernel, rfl, by decide +kernel, by decide +kernel⟩
theorem ok_Fault {f C : Addr} {fd : FuncData} (F : Fun K "__init__" "Fault.__init__" s_Fault f fd) (xc : XcC K C) (nk : PySem.W.findIn K (.ref C) "kind" = some none) (np : PySem.W.findIn K (.ref C) "place" = some none) :
    FnOk P w K mg base CX0 1 f fd ["self", "kind", "place"] (spFI C) := by
  refine F.ok sc_Fault (fun vs H Q E h => ?_) (fun cdv Ar outer s H vs Q E hr h => ?_)
  · obtain ⟨a, x, y, rfl, _⟩ := h
    rfl
  refine ⟨_, pss_cons (ps_xst (pv 0) (pv 1)) (pss_one (ps_xst (pv 0) (pv 2))), ?_⟩
  obtain ⟨a, x, y, rfl, ha, k⟩ := h
  refine ⟨_, rfl, _, rfl, a, C, rfl, xc, nk, .inl ⟨ha, fun dx nd ne => ?_⟩⟩
  refine ⟨_, rfl, _, rfl, a, C, rfl, xc, np, .inr ⟨dx, _, upd_same, ?_, by show 1 ≤ 900; decide, k dx nd ne⟩⟩
  rw [upd_ne ne]
  exact upd_same
end
section
variable {X : Cx} {W : WX} {a b : Expr} {ta tb : TE} {p pos pos2 : Pos} {j : Nat} {C : Addr}
theorem pmk_flt (T : FltT X.prog X.w X.K X.mg X.base C) (hr : Room j X.A) (hp : PA X [a, b] (tCons ta (tCons tb tNil))) (hj : 2 ≤ j := by decide) (hg : Gl X "Fault" := by rfl)
    (he : starEach [a, b] X.env = (false, eval a X.env) :: starEach [b] X.env := by rfl) (hpl : (backTo pos (starEach [b] X.env)).any (·.1) = false := by rfl) :
    PMk X (.Call (.Name "Fault" p) [a, b] [] pos) (tMkFlt C ta tb) := by
  obtain ⟨fI, fd, iC, tI, F, hb⟩ := T.ex
  intro pins s σ H Q I h
  refine pmk_xc (p := p) (pos := pos) T.xc iC tI F (hr.mono hj) hb (fun _ _ _ _ _ _ _ z => z.elim) hg T.gl (pa_up hp) (by decide) he hpl pins s σ H Q I ?_
  refine ⟨fun vs H2 => two (fun x y => ∀ d, H2 d = none → Q (.ref C) (some d) (upd H2 d (.xd (fltFs x y)))) vs, h, ?_⟩
  · intro vs H2 q
    obtain ⟨x, y, rfl, q⟩ := two_inv q
    refine ⟨by show 2 ≤ 1000; decide, fun e ne => ⟨e, x, y, rfl, upd_same, fun dx nd nde => ⟨rfl, dx, fltFs x y, ?_, upd_same, ?_, ?_⟩⟩⟩
    · rw [upd_ne (Ne.symm nde), upd_same]
    · rw [upd_ne nde] at nd
      exact nd
    · rw [upd_ne nde] at nd
      have z := q dx nd
      refine cast (congrArg (Q (.ref C) (some dx)) ?_) z
      funext c
      by_cases h1 : c = dx
      · rw [h1, upd_same, upd_same]
      · rw [upd_ne h1, upd_ne h1]
        by_cases h2 : c = e
        · rw [h2, del_same, ne]
        · rw [del_ne h2, upd_ne h1, upd_ne h2, upd_ne h1, upd_ne h2]
/-- raise Fault(a, b) -/
def tFlt (C : Addr) (W : WX) (ta tb : TE) : TS := fun _ σ H => tMkFlt C ta tb σ H fun cls d H' => W cls d σ H'
theorem ps_flt (T : FltT X.prog X.w X.K X.mg X.base C) (hr : Room j X.A) (hc : X.calm = true) (tk : Takes X W) (hp : PA X [a, b] (tCons ta (tCons tb tNil))) (hj : 2 ≤ j := by decide) (hg : Gl X "Fault" := by rfl)
    (he : starEach [a, b] X.env = (false, eval a X.env) :: starEach [b] X.env := by rfl) (hpl : (backTo pos (starEach [b] X.env)).any (·.1) = false := by rfl) :
    PS X (.Raise (some (.Call (.Name "Fault" p) [a, b] [] pos)) none pos2) (tFlt C W ta tb) := ps_raise hc tk (pmk_flt T hr hp hj hg he hpl)
/-- an exception in a promise: a Fault of a kind and a place -/
def isFlt (C : Addr) (E : XK) (H : Hp) (f : Nat × Nat) : Prop := ∀ (H' : Hp) (d : Addr), Same H H' → H' d = some (.xd (fltFs (ni f.1) (ni f.2))) → E (.ref C) (some d) H'
end
end G

end

section
set_option Elab.async false
set_option linter.all false
set_option maxRecDepth 100000
set_option maxHeartbeats 2000000
namespace G
open PySem PySem.Spec PyProof.Rows L2 GR
/-! ### bytes as data -/
def dB (l : Bytes) : PyData := .list (l.map fun n : Nat => .int (n : Int))
theorem dB_all {K : PySem.W.Frag} {H : Hp} : ∀ l : Bytes, DpAll K H (nis l) (l.map fun n : Nat => .int (n : Int))
  | [] => .nil
  | n :: r => .cons (.int _) (dB_all r)
theorem dp_dB {K : PySem.W.Frag} {H : Hp} {q : Addr} {l : Bytes} (h : H q = some (.lst (nis l))) : Dp K H (.ref q) (dB l) := .lst (.of h) (dB_all l)
theorem dp_dBs {K : PySem.W.Frag} {H : Hp} : ∀ {qs : List Addr} {ls : List Bytes}, Paired (fun q l => H q = some (.lst (nis l))) qs ls → DpAll K H (qs.map V.ref) (ls.map dB)
  | _, _, .nil => .nil
  | _, _, .cons r t => .cons (dp_dB r) (dp_dBs t)
theorem lay_ints : ∀ l : Bytes, PyData.canLayAll0 (l.map fun n : Nat => .int (n : Int)) = true
  | [] => by simp [PyData.canLayAll0]
  | n :: r => by
    have ih := lay_ints r
    simp only [List.map_cons, PyData.canLayAll0, PyData.canLay0, Bool.true_and]
    exact ih
theorem lay_dB (l : Bytes) : PyData.canLay0 (dB l) = true := by
  unfold dB
  simp only [PyData.canLay0]
  exact lay_ints l
theorem lay_dBs : ∀ ls : List Bytes, PyData.canLayAll0 (ls.map dB) = true
  | [] => by simp [PyData.canLayAll0]
  | l :: r => by
    have ih := lay_dBs r
    simp only [List.map_cons, PyData.canLayAll0, lay_dB, Bool.true_and]
    exact ih
theorem dep_ints : ∀ l : Bytes, PyData.depthAll (l.map fun n : Nat => .int (n : Int)) ≤ 1
  | [] => by simp [PyData.depthAll]
  | n :: r => by
    have ih := dep_ints r
    simp only [List.map_cons, PyData.depthAll, PyData.depth]
    omega
theorem dep_dB (l : Bytes) : PyData.depth (dB l) ≤ 2 := by
  have h := dep_ints l
  unfold dB
  simp only [PyData.depth]
  omega
theorem dep_dBs : ∀ ls : List Bytes, PyData.depthAll (ls.map dB) ≤ 2
  | [] => by simp [PyData.depthAll]
  | l :: r => by
    have ih := dep_dBs r
    have h := dep_dB l
    simp only [List.map_cons, PyData.depthAll]
    omega
theorem shaped_dB (l : Bytes) : SeqAt.shaped (dB l) = true := by
  unfold SeqAt.shaped
  rw [lay_dB, Bool.true_and]
  have := dep_dB l
  exact decide_eq_true (by omega)
theorem shaped_dBs (ls : List Bytes) : SeqAt.shaped (.list (ls.map dB)) = true := by
  unfold SeqAt.shaped
  have h := dep_dBs ls
  have e : PyData.canLay0 (.list (ls.map dB)) = true := by
    simp only [PyData.canLay0]
    exact lay_dBs ls
  rw [e, Bool.true_and]
  refine decide_eq_true ?_
  simp only [PyData.depth]
  omega
theorem eqv_ints : ∀ a b : Bytes, PyData.eqvAll (a.map fun n : Nat => .int (n : Int)) (b.map fun n : Nat => .int (n : Int)) = decide (a = b)
  | [], [] => by simp [PyData.eqvAll]
  | [], _ :: _ => by simp [PyData.eqvAll]
  | _ :: _, [] => by simp [PyData.eqvAll]
  | x :: a, y :: b => by
    have ih := eqv_ints a b
    simp only [List.map_cons, PyData.eqvAll, PyData.eqv, ih, List.cons.injEq]
    by_cases h : x = y
    · subst h
      simp
    · have h' : ¬ (x : Int) = (y : Int) := by omega
      simp [h, h']
theorem eqv_dB (a b : Bytes) : PyData.eqv (dB a) (dB b) = decide (a = b) := by
  unfold dB
  simp only [PyData.eqv]
  exact eqv_ints a b
theorem any_empty (ls : List Bytes) : ((ls.map dB).any fun z => PyData.eqv z (.list [])) = ls.any fun l => decide (l = []) := by
  rw [List.any_map]
  congr 1
  funext l
  show PyData.eqv (dB l) (dB []) = _
  exact eqv_dB l []
end G

end

section
set_option Elab.async false
set_option linter.all false
set_option maxRecDepth 100000
set_option maxHeartbeats 2000000
namespace G
open PySem PySem.Spec PyProof.Rows L2 GR
/-! ### pieces -/
abbrev Pc := Sx05.Piece
def PcAt (H : Hp) (a : Addr) (p : Pc) : Prop := ∃ f g, H a = some (.tup [ni p.seam, .ref f, .ref g]) ∧ H f = some (.tup (nis p.form)) ∧ H g = some (.tup (nis p.gloss))
def Pcs (H : Hp) (p : Addr) (l : List Pc) : Prop := ∃ as : List Addr, H p = some (.lst (as.map V.ref)) ∧ Paired (PcAt H) as l
theorem PcAt.same {H H' : Hp} (s : Same H H') {a : Addr} {p : Pc} (h : PcAt H a p) : PcAt H' a p := by
  obtain ⟨f, g, e1, e2, e3⟩ := h
  exact ⟨f, g, s _ _ e1, s _ _ e2, s _ _ e3⟩
theorem Pcs.same {H H' : Hp} (s : Same H H') {p : Addr} {l : List Pc} (h : Pcs H p l) : Pcs H' p l := by
  obtain ⟨as, e, r⟩ := h
  exact ⟨as, s _ _ e, Paired.mapP r fun _ _ z => z.same s⟩
def mkPcs : Bytes → List Bytes → List Bytes → List Pc
  | s :: ss, f :: fs, g :: gs => ⟨s, f, g⟩ :: mkPcs ss fs gs
  | _, _, _ => []
theorem mkPcs_take : ∀ (i : Nat) (ss : Bytes) (fs gs : List Bytes) (s : Nat) (f g : Bytes), ss[i]? = some s → fs[i]? = some f → gs[i]? = some g →
    mkPcs (ss.take (i + 1)) (fs.take (i + 1)) (gs.take (i + 1)) = mkPcs (ss.take i) (fs.take i) (gs.take i) ++ [⟨s, f, g⟩]
  | 0, a :: ss, b :: fs, c :: gs, s, f, g, h1, h2, h3 => by
    simp at h1 h2 h3
    subst h1 h2 h3
    simp [mkPcs]
  | i + 1, a :: ss, b :: fs, c :: gs, s, f, g, h1, h2, h3 => by
    have ih := mkPcs_take i ss fs gs s f g (by simpa using h1) (by simpa using h2) (by simpa using h3)
    simp only [List.take_succ_cons, mkPcs, List.cons_append]
    rw [ih]
  | _, [], _, _, _, _, _, h, _, _ => by simp at h
  | _, _ :: _, [], _, _, _, _, _, h, _ => by simp at h
  | _, _ :: _, _ :: _, [], _, _, _, _, _, h => by simp at h
/-- three lists of one length abreast -/
theorem walk_abr {K : PySem.W.Frag} {a b c : Addr} {xs ys zs : List V} (h1 : ys.length = xs.length) (h2 : zs.length = xs.length) : Walk (Abr K a b c) xs.length (fun H => SqL K H a xs ∧ SqL K H b ys ∧ SqL K H c zs)
    (fun i H v H' => ∃ T x y z, v = .ref T ∧ H T = none ∧ H' = upd H T (.tup [x, y, z]) ∧ xs[i]? = some x ∧ ys[i]? = some y ∧ zs[i]? = some z) := by
  refine ⟨fun i _ hi q => ?_, fun _ q => ⟨xs, ys, zs, q.1, q.2.1, q.2.2, rfl, h1, h2⟩, fun i H v H' _ q y => ?_⟩
  · have g1 : i < ys.length := by omega
    have g2 : i < zs.length := by omega
    exact ⟨xs, ys, zs, xs[i], ys[i], zs[i], q.1, q.2.1, q.2.2, by simp [hi], by simp [g1], by simp [g2]⟩
  · obtain ⟨T, x, y, z, e1, e2, e3, e4, e5, e6⟩ := y
    exact ⟨T, x, y, z, e1, e2, e3, e4 xs q.1, e5 ys q.2.1, e6 zs q.2.2⟩
def spPieces : Sp := fun vs H Q _ => ∃ (a b c : Addr) (ss : Bytes) (fs gs : List Bytes), vs = [.ref a, .ref b, .ref c] ∧ H a = some (.lst (nis ss)) ∧ BLs H b fs ∧ BLs H c gs ∧
  fs.length = ss.length ∧ gs.length = ss.length ∧ ss.length ≤ 7001 ∧ ∀ H' p, Same H H' → H p = none → Pcs (New H H') p (mkPcs ss fs gs) → Q (.ref p) H'
abbrev rTupOf (K : PySem.W.Frag) : List V → Hp → VK → Prop := fun xs H Q => ∃ p ys, xs = [.ref p] ∧ ((SqL K H p ys ∧ ∀ l, H l = none → Q (.ref l) (upd H l (.tup ys))) ∨ (SqT K H p ys ∧ Q (.ref p) H))
section
variable {P : Program} {w : World} {K : PySem.W.Frag} {mg : Str → Option Value} {base : Heap} {A : Adr}
theorem sc_pieces_of : FnScope ["seams", "forms", "meanings", "seam", "form", "gloss"] ["seams", "forms", "meanings"] (defScope s_pieces_of) := ⟨rfl, rfl, rfl, by decide +kernel, rfl, by decide +kernel, by decide +kernel⟩
theorem ok_pieces_of {f : Addr} {fd : FuncData} (F : Fun K "pieces_of" "pieces_of" s_pieces_of f fd) (mZ : mg "zip" = none) (mT : mg "tuple" = none) : FnOk P w K mg base CX0 1 f fd ["seams", "forms", "meanings"] spPieces := by
  refine F.ok sc_pieces_of (fun vs H Q E h => ?_) (fun cdv Ar outer s H vs Q E hr h => ?_)
  · obtain ⟨a, b, c, ss, fs, gs, rfl, _⟩ := h
    rfl
  refine ⟨_, pss_one (ps_ret (pe_lc (own := [("seam", 3), ("form", 4), ("gloss", 5)]) (g := gTup K 3 (gCons (gName 3) (gCons (gName 4) (gCons (gName 5) gNil)))) (tt := tYes)
      (te := tTup (tCons (tVar 3) (tCons (tCB (rTupOf K) (tCons (tVar 4) tNil)) (tCons (tCB (rTupOf K) (tCons (tVar 5) tNil)) tNil)))) rfl sc_pieces_of.nd
      (pi_abr (by rfl) mZ (pa_cons (pv 0) (pa_cons (pv 1) (pa_cons (pv 2) pa_nil))))
      (blkOk_by (N := ["seams", "forms", "meanings", "seam", "form", "gloss"]) (sc := defScope s_pieces_of) (by decide +kernel))
      (fun _ _ _ _ _ => by exact (pg_tup rfl (pgs_cons (pg_name (i := 3) sc_pieces_of.nd rfl (Or.inl rfl)) (pgs_cons (pg_name (i := 4) sc_pieces_of.nd rfl (Or.inl rfl)) (pgs_cons (pg_name (i := 5) sc_pieces_of.nd rfl (Or.inl rfl)) pgs_nil)))))
      (fun _ _ _ _ _ => pts_nil)
      (fun _ _ _ _ _ => by exact (pe_tup (pa_cons (pv 3) (pa_cons (pe_callTy call_tuple_of (by rfl) mT (by decide +kernel) (by exact (pa_cons (pv 4) pa_nil))) (pa_cons (pe_callTy call_tuple_of (by rfl) mT (by decide +kernel) (by exact (pa_cons (pv 5) pa_nil))) pa_nil))))))), ?_⟩
  obtain ⟨a, b, c, ss, fs, gs, rfl, ha, ⟨bs, hb, pb⟩, ⟨cs, hc, pc⟩, l1, l2, l3, k⟩ := h
  refine ⟨_, rfl, _, rfl, _, rfl, a, b, c, _, _, _, rfl, .of ha, .of hb, .of hc, fun D nD => ?_⟩
  have s4 : Same H (upd H D (.lst [])) := Same.new nD
  have lb := Paired.length pb
  have lc := Paired.length pc
  refine lc_it (walk_abr (K := K) (a := a) (b := b) (c := c) (xs := nis ss) (ys := bs.map V.ref) (zs := cs.map V.ref) (by rw [List.length_map, nis_length]; omega) (by rw [List.length_map, nis_length]; omega))
    (fun i H' => ∃ as : List Addr, Same H (Off H' D) ∧ H' D = some (.lst (as.map V.ref)) ∧ as.length ≤ i ∧ Paired (PcAt (Off (New H H') D)) as (mkPcs (ss.take i) (fs.take i) (gs.take i))) ?_ ?_ ?_ ?_
  · exact ⟨[], Off.old s4 nD, upd_same, Nat.le_refl _, by simpa [mkPcs] using .nil⟩
  · rintro i H' hi ⟨as, s5, _⟩
    exact ⟨.of (Off.same _ _ (s5 _ _ ha)), .of (Off.same _ _ (s5 _ _ hb)), .of (Off.same _ _ (s5 _ _ hc))⟩
  · rintro i x H1 H2 hi ⟨as, s5, hD, hl, pa⟩ ⟨T, x, y, z, rfl, nT, rfl, e1, e2, e3⟩
    obtain ⟨n, hn, rfl⟩ := nis_get e1
    rw [nis_length] at hi
    rw [List.getElem?_map] at e2 e3
    obtain ⟨b1, hb1, rfl⟩ := Option.map_eq_some_iff.mp e2
    obtain ⟨c1, hc1, rfl⟩ := Option.map_eq_some_iff.mp e3
    obtain ⟨fm, hf1, hf2⟩ := paired_get pb hb1
    obtain ⟨gm, hg1, hg2⟩ := paired_get pc hc1
    have sT : Same H1 (upd H1 T (.tup [ni n, .ref b1, .ref c1])) := Same.new nT
    refine ⟨T, _, rfl, .of upd_same, rfl, _, _, rfl, _, _, rfl, _, _, rfl, rfl, rfl, yes_of ?_⟩
    have old : ∀ {b o}, H b = some o → upd H1 T (.tup [ni n, .ref b1, .ref c1]) b = some o := fun e => sT _ _ (Off.same _ _ (s5 _ _ e))
    have sO := Off.mono (p := D) sT
    have s6 := s5.trans sO
    have hD2 := sT _ _ hD
    have pa2 := Paired.mapP pa (G := PcAt (Off (New H (upd H1 T (.tup [ni n, .ref b1, .ref c1]))) D)) fun _ _ z => z.same (Off.mono (New.mono sT))
    generalize upd H1 T (.tup [ni n, .ref b1, .ref c1]) = H2 at *
    refine ⟨_, rfl, _, rfl, b1, _, rfl, .inl ⟨.of (old hf2), fun q1 nq1 => ?_⟩⟩
    have sa : Same H2 (upd H2 q1 (.tup (nis fm))) := Same.new nq1
    refine ⟨_, rfl, c1, _, rfl, .inl ⟨.of (sa _ _ (old hg2)), fun q2 nq2 => ?_⟩⟩
    have sb : Same (upd H2 q1 (.tup (nis fm))) (upd (upd H2 q1 (.tup (nis fm))) q2 (.tup (nis gm))) := Same.new nq2
    refine ⟨by show 3 ≤ sizeLine; decide, fun q3 nq3 => ?_⟩
    have sc := Same.new (o := .tup [ni n, .ref q1, .ref q2]) nq3
    have sall := (sa.trans sb).trans sc
    have neD : ∀ {q : Addr} {o : HO} {H9 : Hp}, H9 q = none → H9 D = some o → q ≠ D := fun n h z => by rw [z, h] at n; cases n
    have n1 := neD nq1 hD2
    have n2 := neD nq2 (sa _ _ hD2)
    have n3 := neD nq3 ((sa.trans sb) _ _ hD2)
    have sO2 := Off.mono (p := D) sall
    refine ⟨_, sall _ _ hD2, ?_, as ++ [q3], ?_, ?_, ?_, ?_⟩
    · rw [List.length_map, sizeLine_eq]
      omega
    · rw [Off.upd]
      exact s6.trans sO2
    · rw [upd_same, List.map_append]
      rfl
    · rw [List.length_append]
      exact Nat.add_le_add_right hl 1
    · rw [New.off, mkPcs_take i ss fs gs n fm gm hn hf1 hg1]
      have g1 := Off.free s6 nq1
      have g2 := Off.free s6 (sa.free nq2)
      have g3 := Off.free s6 ((sa.trans sb).free nq3)
      refine paired_snoc (Paired.mapP pa2 fun _ _ z => z.same (Off.mono (New.mono sall))) ⟨q1, q2, ?_, ?_, ?_⟩
      · rw [Off.ne n3, New.at g3]
        exact upd_same
      · rw [Off.ne n1, New.at g1]
        exact (sb.trans sc) _ _ upd_same
      · rw [Off.ne n2, New.at g2]
        exact sc _ _ upd_same
  · rintro H' ⟨as, s5, hD, hl, pa⟩
    rw [nis_length, List.take_length, List.take_of_length_le (by omega), List.take_of_length_le (by omega)] at pa
    exact k _ D (s5.trans Off.same) nD ⟨as, (New.at nD).trans hD, Paired.mapP pa fun _ _ z => z.same Off.same⟩
end
end G

end

section
set_option Elab.async false
set_option linter.all false
set_option maxHeartbeats 2000000
/-! the specification's words in the mirror's -/
namespace G
open PySem
theorem seam_is (c : Nat) : Sx05.isSeam c = seamP c := by
  unfold Sx05.isSeam seamP SEAMB
  simp only [List.contains_cons, List.contains_nil, Bool.or_false]
theorem cutFrom_eq : ∀ (l : Bytes) (s p : Nat) (had : Bytes), Sx05.cutFrom s had l = (s :: l.filter seamP).zip ((cutF seamP p had l).map (·.2))
  | [], s, p, had => rfl
  | c :: r, s, p, had => by
    have ih1 := cutFrom_eq r c (p + 1) []
    have ih2 := cutFrom_eq r s (p + 1) (had ++ [c])
    unfold Sx05.cutFrom cutF
    rw [seam_is]
    by_cases h : seamP c = true
    · rw [if_pos h, if_pos h, List.filter_cons_of_pos h, ih1]
      rfl
    · rw [if_neg h, if_neg h, List.filter_cons_of_neg h]
      exact ih2
theorem cutF_count : ∀ (l : Bytes) (p : Nat) (had : Bytes), (cutF seamP p had l).length = (l.filter seamP).length + 1
  | [], _, _ => rfl
  | c :: r, p, had => by
    unfold cutF
    by_cases h : seamP c = true
    · rw [if_pos h, List.filter_cons_of_pos h, List.length_cons, List.length_cons, cutF_count]
    · rw [if_neg h, List.filter_cons_of_neg h, cutF_count]
theorem cutF_flat : ∀ (l : Bytes) (p : Nat) (had : Bytes), ((cutF seamP p had l).map (·.2)).flatMap (fun z => z) = had ++ l.filter fun c => !seamP c
  | [], _, had => by
    show had ++ [] = had ++ []
    rfl
  | c :: r, p, had => by
    unfold cutF
    by_cases h : seamP c = true
    · rw [if_pos h, List.map_cons, List.flatMap_cons, cutF_flat, List.filter_cons_of_neg (p := fun c => !seamP c) (by rw [h]; decide)]
      rfl
    · rw [if_neg h, cutF_flat, List.filter_cons_of_pos (p := fun c => !seamP c) (by simpa using h), List.append_assoc]
      rfl
/-- pieces of a row -/
abbrev prt (r : Seg) : List Bytes := (cuts SEAMB r).map (·.2)
theorem prt_eq (r : Seg) : prt r = (cutF seamP r.1 [] r.2).map (·.2) := rfl
theorem prt_length (r : Seg) : (prt r).length = (r.2.filter seamP).length + 1 := by
  rw [prt_eq, List.length_map]
  exact cutF_count _ _ _
theorem cutFrom_is (r : Seg) : Sx05.cutFrom 0 [] r.2 = (0 :: r.2.filter seamP).zip (prt r) := cutFrom_eq r.2 0 r.1 []
theorem zip_len (r : Seg) : (0 :: r.2.filter seamP).length = (prt r).length := (prt_length r).symm
theorem map_fst_zip {α β : Type} : ∀ {a : List α} {b : List β}, a.length = b.length → (a.zip b).map (·.1) = a
  | [], _, _ => rfl
  | _ :: _, [], h => by simp at h
  | x :: a, y :: b, h => by
    simp only [List.zip_cons_cons, List.map_cons]
    rw [map_fst_zip (by simpa using h)]
theorem map_snd_zip {α β : Type} : ∀ {a : List α} {b : List β}, a.length = b.length → (a.zip b).map (·.2) = b
  | [], [], _ => rfl
  | [], _ :: _, h => by simp at h
  | _ :: _, [], h => by simp at h
  | x :: a, y :: b, h => by
    simp only [List.zip_cons_cons, List.map_cons]
    rw [map_snd_zip (by simpa using h)]
theorem any_is {a : Bytes} {b : List Bytes} (h : a.length = b.length) : ((a.zip b).any fun z => z.2 == []) = b.any fun l => decide (l = []) := by
  have e : ((a.zip b).any fun z => z.2 == []) = ((a.zip b).map (·.2)).any fun l => decide (l = []) := by
    rw [List.any_map]
    congr 1
    funext z
    show (z.2 == []) = decide (z.2 = [])
    by_cases q : z.2 = []
    · rw [q]
      rfl
    · rw [decide_eq_false q]
      exact beq_eq_false_iff_ne.mpr q
  rw [e, map_snd_zip h]
theorem zip_mk : ∀ {a : Bytes} {b c : List Bytes}, a.length = b.length → a.length = c.length → (((a.zip b).zip (a.zip c)).map fun z => (⟨z.1.1, z.1.2, z.2.2⟩ : Pc)) = mkPcs a b c
  | [], [], [], _, _ => rfl
  | [], _ :: _, _, h, _ => by simp at h
  | [], [], _ :: _, _, h => by simp at h
  | _ :: _, [], _, h, _ => by simp at h
  | _ :: _, _ :: _, [], _, h => by simp at h
  | x :: a, y :: b, z :: c, h1, h2 => by
    simp only [List.zip_cons_cons, List.map_cons, mkPcs]
    rw [zip_mk (by simpa using h1) (by simpa using h2)]
theorem wordIn_is (x m g : Seg) : Sx05.wordIn x m g =
    (if ((prt m).any fun l => decide (l = [])) = true then .error (4, m.1) else if ((prt g).any fun l => decide (l = [])) = true then .error (4, g.1)
    else if m.2.filter seamP ≠ g.2.filter seamP then .error (5, g.1) else if (m.2.filter fun c => !seamP c) ≠ x.2 then .error (6, m.1)
    else if 8 < (prt m).length then .error (7, m.1) else .ok ⟨x.2, mkPcs (0 :: m.2.filter seamP) (prt m) (prt g)⟩) := by
  unfold Sx05.wordIn
  rw [cutFrom_is, cutFrom_is]
  dsimp only
  rw [any_is (zip_len m), any_is (zip_len g), map_fst_zip (zip_len m), map_fst_zip (zip_len g)]
  have e1 : (((0 :: m.2.filter seamP).zip (prt m)).flatMap fun z => z.2) = m.2.filter fun c => !seamP c := by
    have e : (((0 :: m.2.filter seamP).zip (prt m)).flatMap fun z => z.2) = (((0 :: m.2.filter seamP).zip (prt m)).map (·.2)).flatMap fun z => z := by rw [List.flatMap_map]
    rw [e, map_snd_zip (zip_len m)]
    exact cutF_flat m.2 m.1 []
  have e2 : ((0 :: m.2.filter seamP).zip (prt m)).length = (prt m).length := by rw [List.length_zip, zip_len m, Nat.min_self]
  rw [e1, e2]
  have e3 : ((0 :: m.2.filter seamP) ≠ (0 :: g.2.filter seamP)) = (m.2.filter seamP ≠ g.2.filter seamP) := by
    simp only [ne_eq, List.cons.injEq, true_and]
  simp only [e3, Sx05.PIECES]
  by_cases h : m.2.filter seamP = g.2.filter seamP
  · have z : (((0 :: m.2.filter seamP).zip (prt m)).zip ((0 :: g.2.filter seamP).zip (prt g))).map (fun z => (⟨z.1.1, z.1.2, z.2.2⟩ : Pc)) = mkPcs (0 :: m.2.filter seamP) (prt m) (prt g) := by
      rw [← h]
      exact zip_mk (zip_len m) (by rw [h]; exact zip_len g)
    rw [z]
    simp only [h, ne_eq, not_true_eq_false, if_false]
  · simp only [h, ne_eq, not_false_eq_true, if_true]
/-! ### tokens -/
def smk (s : Nat) : Bytes := if s = 0 then [] else [s]
theorem seam_pos {c : Nat} (h : seamP c = true) : smk c = [c] := by
  unfold smk
  refine if_neg fun z => ?_
  rw [z] at h
  exact absurd h (by decide)
theorem tok_form : ∀ (l : Bytes) (p s : Nat) (had : Bytes) (gs : List Bytes), gs.length = (l.filter seamP).length + 1 →
    (mkPcs (s :: l.filter seamP) ((cutF seamP p had l).map (·.2)) gs).flatMap (fun q => smk q.seam ++ q.form) = smk s ++ had ++ l
  | _, _, _, _, [], h => by simp at h
  | [], p, s, had, g :: gs, _ => by
    show (mkPcs [s] [had] (g :: gs)).flatMap _ = _
    simp [mkPcs]
  | c :: r, p, s, had, g :: gs, h => by
    unfold cutF
    by_cases hc : seamP c = true
    · rw [if_pos hc, List.filter_cons_of_pos hc]
      simp only [List.map_cons, mkPcs, List.flatMap_cons]
      rw [List.filter_cons_of_pos hc] at h
      rw [tok_form r (p + 1) c [] gs (by simpa using h), seam_pos hc]
      simp
    · rw [if_neg hc, List.filter_cons_of_neg hc]
      rw [List.filter_cons_of_neg hc] at h
      rw [tok_form r (p + 1) s (had ++ [c]) (g :: gs) h]
      simp
theorem tok_gloss : ∀ (l : Bytes) (p s : Nat) (had : Bytes) (fs : List Bytes), fs.length = (l.filter seamP).length + 1 →
    (mkPcs (s :: l.filter seamP) fs ((cutF seamP p had l).map (·.2))).flatMap (fun q => smk q.seam ++ q.gloss) = smk s ++ had ++ l
  | _, _, _, _, [], h => by simp at h
  | [], p, s, had, g :: gs, _ => by
    show (mkPcs [s] (g :: gs) [had]).flatMap _ = _
    simp [mkPcs]
  | c :: r, p, s, had, g :: gs, h => by
    unfold cutF
    by_cases hc : seamP c = true
    · rw [if_pos hc, List.filter_cons_of_pos hc]
      simp only [List.map_cons, mkPcs, List.flatMap_cons]
      rw [List.filter_cons_of_pos hc] at h
      rw [tok_gloss r (p + 1) c [] gs (by simpa using h), seam_pos hc]
      simp
    · rw [if_neg hc, List.filter_cons_of_neg hc]
      rw [List.filter_cons_of_neg hc] at h
      rw [tok_gloss r (p + 1) s (had ++ [c]) (g :: gs) h]
      simp
theorem token_form {m : Seg} {gs : List Bytes} (h : gs.length = (prt m).length) : Sx05.token Sx05.Piece.form (mkPcs (0 :: m.2.filter seamP) (prt m) gs) = m.2 := by
  have z := tok_form m.2 m.1 0 [] gs (by rw [h, prt_length])
  exact z
theorem token_gloss {m g : Seg} (h : m.2.filter seamP = g.2.filter seamP) : Sx05.token Sx05.Piece.gloss (mkPcs (0 :: m.2.filter seamP) (prt m) (prt g)) = g.2 := by
  have z := tok_gloss g.2 g.1 0 [] (prt m) (by rw [prt_length, h])
  rw [h]
  exact z
end G

end

section
set_option Elab.async false
set_option linter.all false
set_option maxRecDepth 100000
set_option maxHeartbeats 4000000
namespace G
open PySem PySem.Spec PyProof.Rows L2 GR
/-! ### words -/
def WordAt (C : Addr) (H : Hp) (a : Addr) (x : Sx05.Word) : Prop := ∃ dx t p q1 q2 q3, H a = some (.ins C dx [("rows", .ref t), ("pieces", .ref p)]) ∧ H t = some (.tup [.ref q1, .ref q2, .ref q3]) ∧
  H q1 = some (.lst (nis x.text)) ∧ H q2 = some (.lst (nis (Sx05.token Sx05.Piece.form x.pieces))) ∧ H q3 = some (.lst (nis (Sx05.token Sx05.Piece.gloss x.pieces))) ∧ Pcs H p x.pieces
theorem WordAt.same {C : Addr} {H H' : Hp} (s : Same H H') {a : Addr} {x : Sx05.Word} (h : WordAt C H a x) : WordAt C H' a x := by
  obtain ⟨dx, t, p, q1, q2, q3, e1, e2, e3, e4, e5, e6⟩ := h
  exact ⟨dx, t, p, q1, q2, q3, s _ _ e1, s _ _ e2, s _ _ e3, s _ _ e4, s _ _ e5, e6.same s⟩
/-- the heap without the things of S -/
noncomputable def Hd (S : Addr → Prop) (H : Hp) : Hp := fun b => open Classical in if S b then none else H b
theorem Hd.at {S : Addr → Prop} {H : Hp} {b : Addr} (h : ¬ S b) : Hd S H b = H b := if_neg h
theorem Hd.inv {S : Addr → Prop} {H : Hp} {b : Addr} {o : HO} (e : Hd S H b = some o) : ¬ S b ∧ H b = some o := by
  unfold Hd at e
  by_cases h : S b
  · rw [if_pos h] at e
    cases e
  · rw [if_neg h] at e
    exact ⟨h, e⟩
theorem Hd.sub {S : Addr → Prop} {H : Hp} : Same (Hd S H) H := fun b o e => (Hd.inv e).2
theorem Hd.mono {S : Addr → Prop} {H H' : Hp} (s : Same H H') : Same (Hd S H) (Hd S H') := fun b o e => by
  obtain ⟨h1, h2⟩ := Hd.inv e
  rw [Hd.at h1]
  exact s _ _ h2
theorem Hd.new {S : Addr → Prop} {H H' : Hp} (hS : ∀ b, S b → H b ≠ none) : Same (New H H') (Hd S H') := fun b o e => by
  obtain ⟨h1, h2⟩ := New.inv e
  rw [Hd.at fun z => hS b z h1]
  exact h2
def spWordOf (A : Adr) : Sp := fun vs H Q E => ∃ (S : Addr → Prop) (a b c : Addr) (x m g : Seg), vs = [.ref a, .ref b, .ref c] ∧ (∀ b, S b → H b ≠ none) ∧ RowAt A.Row (Hd S H) a x ∧ RowAt A.Row (Hd S H) b m ∧ RowAt A.Row (Hd S H) c g ∧
  x.2.length ≤ 7000 ∧ m.2.length ≤ 7000 ∧ g.2.length ≤ 7000 ∧ (∀ f, Sx05.wordIn x m g = .error f → isFlt A.Fault E H f) ∧
  (∀ wd, Sx05.wordIn x m g = .ok wd → ∀ H' p, Same H H' → WordAt A.Word (Hd S H') p wd → Q (.ref p) H')
theorem units65 {A : Around} {k : Nat} (hr : Room k A) : A.units + 65 < cLine := by
  have := hr.un
  omega
theorem flt_now {C : Addr} {E : XK} {H H2 : Hp} {f : Nat × Nat} (h : isFlt C E H f) (s : Same H H2) (d : Addr) (nd : H2 d = none) : E (.ref C) (some d) (upd H2 d (.xd (fltFs (ni f.1) (ni f.2)))) :=
  h _ d (s.trans (Same.new nd)) upd_same
section
variable {P : Program} {w : World} {K : PySem.W.Frag} {mg : Str → Option Value} {base : Heap} {A : Adr} {f1 f2 f3 f4 : Addr}
theorem sc_word_of : FnScope ["written", "pieces", "glosses", "forms", "meanings", "seams", "rows"] ["written", "pieces", "glosses"] (defScope s_word_of) := ⟨rfl, rfl, rfl, by decide +kernel, rfl, by decide +kernel, by decide +kernel⟩
theorem ok_word_of {f : Addr} {fd : FuncData} (F : Fun K "word_of" "word_of" s_word_of f fd) (R : Rec2 P w K mg base "Row" A.Row "place" "signs") (RW : Rec2 P w K mg base "Word" A.Word "rows" "pieces") (T : FltT P w K mg base A.Fault)
    (D1 : Def P w K mg base CX0 4 "parts_of" f1 ["row"] (spParts A)) (D2 : Def P w K mg base CX0 4 "seams_of" f2 ["row"] (spFilter A seamP)) (D3 : Def P w K mg base CX0 4 "without_seams" f3 ["row"] (spFilter A fun c => !seamP c))
    (D4 : Def P w K mg base CX0 1 "pieces_of" f4 ["seams", "forms", "meanings"] spPieces) (mLen : mg "len" = none)
    {t4 t5 t6 t7 t8 t0 : Tok} (m4 : mg "EMPTY_PART" = some (.int 4 t4)) (m5 : mg "OTHER_SEAMS" = some (.int 5 t5)) (m6 : mg "OTHER_WORD" = some (.int 6 t6)) (m7 : mg "TOO_MANY" = some (.int 7 t7)) (m8 : mg "MOST_PIECES" = some (.int 8 t8)) (m0 : mg "NO_SEAM" = some (.int 0 t0)) :
    FnOk P w K mg base (L2.CX P w) 5 f fd ["written", "pieces", "glosses"] (spWordOf A) := by
  refine F.okX sc_word_of (fun vs H Q E h => ?_) (fun cdv Ar outer s H vs Q E hr h => ?_)
  · obtain ⟨S, a, b, c, x, m, g, rfl, _⟩ := h
    rfl
  refine ⟨_, pss_cons (ps_set (i := 3) sc_word_of.nd rfl (.inl rfl) (pe_def D1 hr pass0 (pa_cons (pv 1) pa_nil)))
    (pss_cons (ps_set (i := 4) sc_word_of.nd rfl (.inl rfl) (pe_def D1 hr pass0 (pa_cons (pv 2) pa_nil)))
    (pss_cons (ps_set (i := 5) sc_word_of.nd rfl (.inl rfl) (pe_def D2 hr pass0 (pa_cons (pv 1) pa_nil)))
    (pss_cons (ps_if (pt_cmpR (op_inD (units65 hr)) (pe_lst pa_nil) (pv 3) rfl) (pss_one (ps_flt T hr rfl (takes_of rfl rfl rfl rfl) (by exact (pa_cons (pe_glob (v := .int 4) rfl m4 ⟨_, rfl⟩) (pa_cons (pe_fld (pv 1) rfl) pa_nil))))) pss_nil)
    (pss_cons (ps_if (pt_cmpR (op_inD (units65 hr)) (pe_lst pa_nil) (pv 4) rfl) (pss_one (ps_flt T hr rfl (takes_of rfl rfl rfl rfl) (by exact (pa_cons (pe_glob (v := .int 4) rfl m4 ⟨_, rfl⟩) (pa_cons (pe_fld (pv 2) rfl) pa_nil))))) pss_nil)
    (pss_cons (ps_if (pt_cmpR (op_neD hr.units) (pv 5) (pe_def D2 hr pass0 (pa_cons (pv 2) pa_nil)) (nomark _)) (pss_one (ps_flt T hr rfl (takes_of rfl rfl rfl rfl) (by exact (pa_cons (pe_glob (v := .int 5) rfl m5 ⟨_, rfl⟩) (pa_cons (pe_fld (pv 2) rfl) pa_nil))))) pss_nil)
    (pss_cons (ps_if (pt_cmpR (op_neD hr.units) (pe_def D3 hr pass0 (pa_cons (pv 1) pa_nil)) (pe_fld (pv 0) rfl) (nomark _)) (pss_one (ps_flt T hr rfl (takes_of rfl rfl rfl rfl) (by exact (pa_cons (pe_glob (v := .int 6) rfl m6 ⟨_, rfl⟩) (pa_cons (pe_fld (pv 1) rfl) pa_nil))))) pss_nil)
    (pss_cons (ps_if (pt_cmpR op_gt (pe_callB call_len_seq (by rfl) mLen PySem.boot_len (by exact (pa_cons (pv 3) pa_nil))) (pe_glob (v := .int 8) rfl m8 ⟨_, rfl⟩) (nomark _)) (pss_one (ps_flt T hr rfl (takes_of rfl rfl rfl rfl) (by exact (pa_cons (pe_glob (v := .int 7) rfl m7 ⟨_, rfl⟩) (pa_cons (pe_fld (pv 1) rfl) pa_nil))))) pss_nil)
    (pss_cons (ps_set (i := 6) sc_word_of.nd rfl (.inl rfl) (pe_tup (pa_cons (pe_fld (pv 0) rfl) (pa_cons (pe_fld (pv 1) rfl) (pa_cons (pe_fld (pv 2) rfl) pa_nil)))))
    (pss_one (ps_ret (pe_rec2 RW hr (pa_cons (pv 6) (pa_cons (pe_def D4 hr pass0 (pa_cons (pe_op op_cat (pe_lst (pa_cons (pe_glob (v := .int 0) rfl m0 ⟨_, rfl⟩) pa_nil)) (pv 5)) (pa_cons (pv 3) (pa_cons (pv 4) pa_nil)))) pa_nil))))))))))))), ?_⟩
  obtain ⟨S, a, b, c, x, m, g, rfl, hS, hSa, hSb, hSc, lx, lm, lg, kE, kO⟩ := h
  rw [wordIn_is] at kE kO
  have ha := hSa.same Hd.sub
  have hb := hSb.same Hd.sub
  have hc := hSc.same Hd.sub
  obtain ⟨dxa, qa, ea0, eqa0⟩ := hSa
  obtain ⟨dxb, qb, eb0, eqb0⟩ := hSb
  obtain ⟨dxc, qc, ec0, eqc0⟩ := hSc
  refine ⟨_, rfl, b, m, rfl, hb, lm, fun H1 p1 s1 np1 b1 => ?_⟩
  refine ⟨_, rfl, c, g, rfl, hc.same s1, lg, fun H2 p2 s2 np2 b2 => ?_⟩
  have s02 := s1.trans s2
  refine ⟨_, rfl, b, m, rfl, hb.same s02, lm, fun H3 p3 s3 np3 b3 => ?_⟩
  have s03 := s02.trans s3
  have b1 := ((b1.same New.sub).same s2).same s3
  have b2 := (b2.same New.sub).same s3
  -- [] in forms
  refine ⟨Nat.zero_le _, fun n1 nn1 => ?_⟩
  have s4 : Same H3 (upd H3 n1 (.lst [])) := Same.new nn1
  obtain ⟨bs, eb, pb⟩ := b1.same s4
  refine ⟨_, rfl, .list [], (prt m).map dB, dp_dB (l := []) upd_same, .lst (.of eb) (dp_dBs pb), shaped_dB [], shaped_dBs _, _, rfl, ?_⟩
  rw [any_empty]
  have s04 := s03.trans s4
  generalize upd H3 n1 (.lst []) = H4 at *
  have plB : ∀ {H9 : Hp}, Same H H9 → ∃ dx q, H9 b = some (.ins A.Row dx [("place", ni m.1), ("signs", .ref q)]) ∧ H9 q = some (.lst (nis m.2)) := fun z => hb.same z
  have plC : ∀ {H9 : Hp}, Same H H9 → ∃ dx q, H9 c = some (.ins A.Row dx [("place", ni g.1), ("signs", .ref q)]) ∧ H9 q = some (.lst (nis g.2)) := fun z => hc.same z
  by_cases c1 : ((prt m).any fun l => decide (l = [])) = true
  · refine if_true_of c1 ?_
    rw [if_pos c1] at kE
    obtain ⟨dx, q, e1, e2⟩ := plB s04
    exact ⟨_, rfl, b, A.Row, dx, _, _, rfl, e1, R.cl, R.n1, lk1, fun d nd => flt_now (kE _ rfl) s04 d nd⟩
  refine if_false_of (Bool.not_eq_true _ ▸ c1) ?_
  rw [if_neg c1] at kE kO
  have b2 := b2.same s4
  refine ⟨Nat.zero_le _, fun n2 nn2 => ?_⟩
  have s5 : Same H4 (upd H4 n2 (.lst [])) := Same.new nn2
  obtain ⟨cs, ec, pc⟩ := b2.same s5
  refine ⟨_, rfl, .list [], (prt g).map dB, dp_dB (l := []) upd_same, .lst (.of ec) (dp_dBs pc), shaped_dB [], shaped_dBs _, _, rfl, ?_⟩
  rw [any_empty]
  have s05 := s04.trans s5
  generalize upd H4 n2 (.lst []) = H5 at *
  by_cases c2 : ((prt g).any fun l => decide (l = [])) = true
  · refine if_true_of c2 ?_
    rw [if_pos c2] at kE
    obtain ⟨dx, q, e1, e2⟩ := plC s05
    exact ⟨_, rfl, c, A.Row, dx, _, _, rfl, e1, R.cl, R.n1, lk1, fun d nd => flt_now (kE _ rfl) s05 d nd⟩
  refine if_false_of (Bool.not_eq_true _ ▸ c2) ?_
  rw [if_neg c2] at kE kO
  -- seams
  refine ⟨_, rfl, _, rfl, c, g, rfl, hc.same s05, lg, fun H6 p6 s6 np6 b6 => ?_⟩
  have s06 := s05.trans s6
  have b3 := ((s4.trans s5).trans s6) _ _ b3
  refine ⟨dB _, dB _, dp_dB b3, dp_dB b6, shaped_dB _, shaped_dB _, _, rfl, ?_⟩
  rw [eqv_dB]
  by_cases c3 : m.2.filter seamP = g.2.filter seamP
  case neg =>
    refine if_true_of (by rw [decide_eq_false c3]; rfl) ?_
    rw [if_pos c3] at kE
    obtain ⟨dx, q, e1, e2⟩ := plC s06
    exact ⟨_, rfl, c, A.Row, dx, _, _, rfl, e1, R.cl, R.n1, lk1, fun d nd => flt_now (kE _ rfl) s06 d nd⟩
  refine if_false_of (by rw [decide_eq_true c3]; rfl) ?_
  rw [if_neg (not_not_intro c3)] at kE kO
  -- the word
  refine ⟨_, rfl, b, m, rfl, hb.same s06, lm, fun H7 p7 s7 np7 b7 => ?_⟩
  have s07 := s06.trans s7
  have ea := s07 _ _ (Hd.sub _ _ ea0)
  have eqa := s07 _ _ (Hd.sub _ _ eqa0)
  refine ⟨_, rfl, a, A.Row, dxa, _, _, rfl, ea, R.cl, R.n2, lk2 R.ne, dB _, dB _, dp_dB b7, dp_dB eqa, shaped_dB _, shaped_dB _, _, rfl, ?_⟩
  rw [eqv_dB]
  by_cases c4 : (m.2.filter fun c => !seamP c) = x.2
  case neg =>
    refine if_true_of (by rw [decide_eq_false c4]; rfl) ?_
    rw [if_pos c4] at kE
    obtain ⟨dx, q, e1, e2⟩ := plB s07
    exact ⟨_, rfl, b, A.Row, dx, _, _, rfl, e1, R.cl, R.n1, lk1, fun d nd => flt_now (kE _ rfl) s07 d nd⟩
  refine if_false_of (by rw [decide_eq_true c4]; rfl) ?_
  rw [if_neg (not_not_intro c4)] at kE kO
  -- how many
  have s47 := (s5.trans s6).trans s7
  have eb7 := s47 _ _ eb
  refine ⟨_, rfl, p1, _, rfl, .inl (.of eb7), _, _, rfl, rfl, _, rfl, ?_⟩
  have lb : bs.length = (prt m).length := Paired.length pb
  rw [List.length_map, lb]
  by_cases c5 : 8 < (prt m).length
  · refine if_true_of (decide_eq_true (by omega)) ?_
    rw [if_pos c5] at kE
    obtain ⟨dx, q, e1, e2⟩ := plB s07
    exact ⟨_, rfl, b, A.Row, dx, _, _, rfl, e1, R.cl, R.n1, lk1, fun d nd => flt_now (kE _ rfl) s07 d nd⟩
  refine if_false_of (decide_eq_false (by omega)) ?_
  rw [if_neg c5] at kO
  -- the end
  have ebr := s07 _ _ (Hd.sub _ _ eb0)
  have ecr := s07 _ _ (Hd.sub _ _ ec0)
  refine ⟨_, rfl, a, A.Row, dxa, _, _, rfl, ea, R.cl, R.n2, lk2 R.ne, _, rfl, b, A.Row, dxb, _, _, rfl, ebr, R.cl, R.n2, lk2 R.ne, _, rfl, c, A.Row, dxc, _, _, rfl, ecr, R.cl, R.n2, lk2 R.ne, ?_⟩
  refine ⟨by show 3 ≤ sizeLine; decide, fun t nt => ?_⟩
  have s8 : Same H7 (upd H7 t (.tup [.ref qa, .ref qb, .ref qc])) := Same.new nt
  have et : upd H7 t (.tup [.ref qa, .ref qb, .ref qc]) t = some (.tup [.ref qa, .ref qb, .ref qc]) := upd_same
  have s08 := s07.trans s8
  have s48 := s47.trans s8
  have ft : ¬ S t := fun z => hS t z (s07.free nt)
  generalize upd H7 t (.tup [.ref qa, .ref qb, .ref qc]) = H8 at *
  refine ⟨_, rfl, by show 1 ≤ sizeLine; decide, fun z nz => ?_⟩
  have s9 : Same H8 (upd H8 z (.lst [.int 0])) := Same.new nz
  have l5 := List.length_filter_le seamP m.2
  have b39 := s9 _ _ (s8 _ _ (s7 _ _ b3))
  refine ⟨_, rfl, z, p3, _, _, rfl, rfl, upd_same, b39, ?_, fun y ny => ?_⟩
  · show 1 + (nis (m.2.filter seamP)).length ≤ sizeLine
    rw [nis_length, sizeLine_eq]
    omega
  have s10 := Same.new (o := .lst ([.int 0] ++ nis (m.2.filter seamP))) ny
  have s8_10 := s9.trans s10
  refine ⟨_, rfl, _, rfl, y, p1, p2, 0 :: m.2.filter seamP, prt m, prt g, rfl, upd_same, ⟨bs, s8_10 _ _ (s48 _ _ eb), Paired.mapP pb fun _ _ h => s8_10 _ _ (s48 _ _ h)⟩,
    ⟨cs, s8_10 _ _ (s8 _ _ (s7 _ _ (s6 _ _ ec))), Paired.mapP pc fun _ _ h => s8_10 _ _ (s8 _ _ (s7 _ _ (s6 _ _ h)))⟩, ?_, ?_, ?_, fun H11 p11 s11 np11 hP => ?_⟩
  · exact (zip_len m).symm
  · rw [c3]
    exact (zip_len g).symm
  · rw [List.length_cons]
    omega
  intro o dx no nd ne
  have s12 := Same.recH (C := A.Word) (fs := [("rows", V.ref t), ("pieces", V.ref p11)]) no nd
  have s8_12 := (s8_10.trans s11).trans s12
  have s0_11 := s08.trans (s8_10.trans s11)
  have s0_12 := s08.trans s8_12
  have sm := Hd.mono (S := S) s0_12
  refine kO _ rfl _ o s0_12 ⟨dx, t, p11, qa, qb, qc, ?_, ?_, sm _ _ eqa0, ?_, ?_, hP.same ?_⟩
  · rw [Hd.at fun z => hS o z (s0_11.free no)]
    exact recH_at
  · rw [Hd.at ft]
    exact s8_12 _ _ et
  · rw [token_form (by rw [prt_length, prt_length, c3])]
    exact sm _ _ eqb0
  · rw [token_gloss c3]
    exact sm _ _ eqc0
  · exact ((New.of (s08.trans s8_10)).trans (Hd.new hS)).trans (Hd.mono s12)
end
end G

end

section
set_option Elab.async false
set_option linter.all false
set_option maxRecDepth 100000
set_option maxHeartbeats 4000000
namespace G
open PySem PySem.Spec PyProof.Rows L2 GR
def Wds (C : Addr) (H : Hp) (p : Addr) (ws : List Sx05.Word) : Prop := ∃ as : List Addr, H p = some (.lst (as.map V.ref)) ∧ Paired (WordAt C H) as ws
theorem Wds.same {C : Addr} {H H' : Hp} (s : Same H H') {p : Addr} {ws : List Sx05.Word} (h : Wds C H p ws) : Wds C H' p ws := by
  obtain ⟨as, e, r⟩ := h
  exact ⟨as, s _ _ e, Paired.mapP r fun _ _ z => z.same s⟩
theorem wordsFrom_eq : ∀ (l : Bytes) (p : Nat) (had : Bytes), Sx05.wordsFrom p had l = (cutF (fun c => ([32] : Bytes).contains c) p had l).filter fun x => decide (0 < x.2.length)
  | [], p, had => by
    unfold Sx05.wordsFrom cutF
    by_cases h : had = []
    · rw [if_pos h, h]
      rfl
    · have h' : 0 < had.length := List.length_pos_iff.mpr h
      rw [if_neg h, List.filter_cons_of_pos (by simpa using h'), List.filter_nil]
  | c :: r, p, had => by
    unfold Sx05.wordsFrom cutF
    have ih1 := wordsFrom_eq r (p + 1) []
    have ih2 := wordsFrom_eq r (p + 1) (had ++ [c])
    by_cases hc : c = 32
    · rw [if_pos hc, if_pos (show ([32] : Bytes).contains c = true by simp [hc])]
      by_cases h : had = []
      · rw [if_pos h, List.filter_cons_of_neg (by simp [h])]
        exact ih1
      · have h' : 0 < had.length := List.length_pos_iff.mpr h
        rw [if_neg h, List.filter_cons_of_pos (by simpa using h'), ih1]
    · rw [if_neg hc, if_neg (show ¬ ([32] : Bytes).contains c = true by simp [hc])]
      exact ih2
theorem wordsFrom_is (r : Seg) : Sx05.wordsFrom r.1 [] r.2 = rowsOf r := wordsFrom_eq _ _ _
theorem rowsOf_sub {r x : Seg} {i : Nat} (h : (rowsOf r)[i]? = some x) : x.2.length ≤ r.2.length := cuts_sub (List.mem_filter.mp (List.mem_of_getElem? h)).1
theorem wordsIn_step {W M G : List Seg} {i : Nat} {x m g : Seg} (h1 : W[i]? = some x) (h2 : M[i]? = some m) (h3 : G[i]? = some g) :
    Sx05.wordsIn (W.drop i) (M.drop i) (G.drop i) = (Sx05.wordIn x m g).bind fun z => (Sx05.wordsIn (W.drop (i + 1)) (M.drop (i + 1)) (G.drop (i + 1))).map fun l => z :: l := by
  obtain ⟨a1, a2⟩ := List.getElem?_eq_some_iff.mp h1
  obtain ⟨b1, b2⟩ := List.getElem?_eq_some_iff.mp h2
  obtain ⟨c1, c2⟩ := List.getElem?_eq_some_iff.mp h3
  rw [List.drop_eq_getElem_cons a1, List.drop_eq_getElem_cons b1, List.drop_eq_getElem_cons c1, a2, b2, c2]
  rfl
/-- what came since H, apart from D -/
abbrev SNew (H : Hp) (D : Addr) : Addr → Prop := fun b => H b ≠ none ∨ b = D
theorem SNew.to {H H' : Hp} {D : Addr} : Same (Off (New H H') D) (Hd (SNew H D) H') := fun b o e => by
  by_cases hb : b = D
  · rw [hb, Off.at] at e
    cases e
  · rw [Off.ne hb] at e
    obtain ⟨g1, g2⟩ := New.inv e
    rw [Hd.at fun z => z.elim (fun q => q g1) hb]
    exact g2
theorem SNew.back {H H' : Hp} {D : Addr} : Same (Hd (SNew H D) H') (Off (New H H') D) := fun b o e => by
  obtain ⟨h1, h2⟩ := Hd.inv e
  have hb : b ≠ D := fun z => h1 (.inr z)
  have hn : H b = none := Classical.byContradiction fun z => h1 (.inl z)
  rw [Off.ne hb, New.at hn]
  exact h2
def spWordsOf (A : Adr) : Sp := fun vs H Q E => ∃ (a b c : Addr) (x m g : Seg), vs = [.ref a, .ref b, .ref c] ∧ RowAt A.Row H a x ∧ RowAt A.Row H b m ∧ RowAt A.Row H c g ∧
  x.2.length ≤ 7000 ∧ m.2.length ≤ 7000 ∧ g.2.length ≤ 7000 ∧ (∀ f, Sx05.threeIn x m g = .error f → isFlt A.Fault E H f) ∧
  (∀ ws, Sx05.threeIn x m g = .ok ws → ∀ H' p, Same H H' → H p = none → Wds A.Word (New H H') p ws → Q (.ref p) H')
theorem isFlt.same {C : Addr} {E : XK} {H H' : Hp} {f : Nat × Nat} (s : Same H H') (h : isFlt C E H f) : isFlt C E H' f := fun H2 d s2 e => h H2 d (s.trans s2) e
def teWord (A : Adr) (Ec : XK) : TE := fun σ H Q => (tCons (tVar 6) (tCons (tVar 7) (tCons (tVar 8) tNil))) σ H fun vs H1 => spWordOf A vs H1 Q Ec
abbrev rNeI : R2 := rI0 fun i j => .bl (!decide (i = j))
section
variable {P : Program} {w : World} {K : PySem.W.Frag} {mg : Str → Option Value} {base : Heap} {A : Adr} {f1 f2 : Addr}
theorem sc_words_of : FnScope ["first", "second", "third", "written", "pieces", "glosses", "word", "cut", "gloss"] ["first", "second", "third"] (defScope s_words_of) := ⟨rfl, rfl, rfl, by decide +kernel, rfl, by decide +kernel, by decide +kernel⟩
theorem ok_words_of {f : Addr} {fd : FuncData} (F : Fun K "words_of" "words_of" s_words_of f fd) (R : Rec2 P w K mg base "Row" A.Row "place" "signs") (T : FltT P w K mg base A.Fault)
    (D1 : Def P w K mg base CX0 4 "rows_of" f1 ["line"] (spRowsOf A)) (D2 : Def P w K mg base (L2.CX P w) 5 "word_of" f2 ["written", "pieces", "glosses"] (spWordOf A)) (mLen : mg "len" = none) (mZ : mg "zip" = none)
    {t1 t2 t3 t7 t30 : Tok} (m1 : mg "BAD_LINES" = some (.int 1 t1)) (m2 : mg "BAD_PIECE_ROWS" = some (.int 2 t2)) (m3 : mg "BAD_GLOSS_ROWS" = some (.int 3 t3)) (m7 : mg "TOO_MANY" = some (.int 7 t7)) (m30 : mg "MOST_WORDS" = some (.int 30 t30)) :
    FnOk P w K mg base (L2.CX P w) 6 f fd ["first", "second", "third"] (spWordsOf A) := by
  refine F.okX sc_words_of (fun vs H Q E h => ?_) (fun cdv Ar outer s H vs Q E hr h => ?_)
  · obtain ⟨a, b, c, x, m, g, rfl, _⟩ := h
    rfl
  refine ⟨_, pss_cons (ps_set (i := 3) sc_words_of.nd rfl (.inl rfl) (pe_def D1 hr pass0 (pa_cons (pv 0) pa_nil)))
    (pss_cons (ps_set (i := 4) sc_words_of.nd rfl (.inl rfl) (pe_def D1 hr pass0 (pa_cons (pv 1) pa_nil)))
    (pss_cons (ps_set (i := 5) sc_words_of.nd rfl (.inl rfl) (pe_def D1 hr pass0 (pa_cons (pv 2) pa_nil)))
    (pss_cons (ps_if (pt_cmpR op_eq (pe_callB call_len_seq (by rfl) mLen PySem.boot_len (by exact (pa_cons (pv 3) pa_nil))) pe_int (nomark _)) (pss_one (ps_flt T hr rfl (takes_of rfl rfl rfl rfl) (by exact (pa_cons (pe_glob (v := .int 1) rfl m1 ⟨_, rfl⟩) (pa_cons (pe_fld (pv 0) rfl) pa_nil))))) pss_nil)
    (pss_cons (ps_if (pt_cmpR op_gt (pe_callB call_len_seq (by rfl) mLen PySem.boot_len (by exact (pa_cons (pv 3) pa_nil))) (pe_glob (v := .int 30) rfl m30 ⟨_, rfl⟩) (nomark _)) (pss_one (ps_flt T hr rfl (takes_of rfl rfl rfl rfl) (by exact (pa_cons (pe_glob (v := .int 7) rfl m7 ⟨_, rfl⟩) (pa_cons (pe_fld (pv 0) rfl) pa_nil))))) pss_nil)
    (pss_cons (ps_if (pt_cmpR op_ne (pe_callB call_len_seq (by rfl) mLen PySem.boot_len (by exact (pa_cons (pv 4) pa_nil))) (pe_callB call_len_seq (by rfl) mLen PySem.boot_len (by exact (pa_cons (pv 3) pa_nil))) (nomark _)) (pss_one (ps_flt T hr rfl (takes_of rfl rfl rfl rfl) (by exact (pa_cons (pe_glob (v := .int 2) rfl m2 ⟨_, rfl⟩) (pa_cons (pe_fld (pv 1) rfl) pa_nil))))) pss_nil)
    (pss_cons (ps_if (pt_cmpR op_ne (pe_callB call_len_seq (by rfl) mLen PySem.boot_len (by exact (pa_cons (pv 5) pa_nil))) (pe_callB call_len_seq (by rfl) mLen PySem.boot_len (by exact (pa_cons (pv 3) pa_nil))) (nomark _)) (pss_one (ps_flt T hr rfl (takes_of rfl rfl rfl rfl) (by exact (pa_cons (pe_glob (v := .int 3) rfl m3 ⟨_, rfl⟩) (pa_cons (pe_fld (pv 2) rfl) pa_nil))))) pss_nil)
    (pss_one (ps_ret (pe_lcx (own := [("word", 6), ("cut", 7), ("gloss", 8)]) (g := gTup K 3 (gCons (gName 6) (gCons (gName 7) (gCons (gName 8) gNil))))
      (te := teWord A) rfl rfl rfl (takes_of rfl rfl rfl rfl) sc_words_of.nd
      (pi_abr (by rfl) mZ (pa_cons (pv 3) (pa_cons (pv 4) (pa_cons (pv 5) pa_nil))))
      (blkOk_by (N := ["first", "second", "third", "written", "pieces", "glosses", "word", "cut", "gloss"]) (sc := defScope s_words_of) (by decide +kernel))
      (fun _ _ _ _ _ => by exact (pg_tup rfl (pgs_cons (pg_name (i := 6) sc_words_of.nd rfl (Or.inl rfl)) (pgs_cons (pg_name (i := 7) sc_words_of.nd rfl (Or.inl rfl)) (pgs_cons (pg_name (i := 8) sc_words_of.nd rfl (Or.inl rfl)) pgs_nil)))))
      (fun _ _ _ _ _ _ _ hps => by exact (pe_def D2 hr hps (pa_cons (pv 6) (pa_cons (pv 7) (pa_cons (pv 8) pa_nil)))))))))))))), ?_⟩
  obtain ⟨a, b, c, x, m, g, rfl, ha, hb, hc, lx, lm, lg, kE, kO⟩ := h
  unfold Sx05.threeIn at kE kO
  rw [wordsFrom_is, wordsFrom_is, wordsFrom_is] at kE kO
  dsimp only at kE kO
  refine ⟨_, rfl, a, x, rfl, ha, lx, fun H1 p1 s1 np1 b1 => ?_⟩
  refine ⟨_, rfl, b, m, rfl, hb.same s1, lm, fun H2 p2 s2 np2 b2 => ?_⟩
  have s02 := s1.trans s2
  refine ⟨_, rfl, c, g, rfl, hc.same s02, lg, fun H3 p3 s3 np3 b3 => ?_⟩
  have s03 := s02.trans s3
  obtain ⟨as, ea, pa⟩ := b1.same (New.mono (s2.trans s3))
  obtain ⟨bs, eb, pb⟩ := b2.same ((New.of s1).trans (New.mono s3))
  obtain ⟨cs, ec, pc⟩ := b3.same (New.of s02)
  have ea := New.sub _ _ ea
  have eb := New.sub _ _ eb
  have ec := New.sub _ _ ec
  have la := Paired.length pa
  have lb := Paired.length pb
  have lc := Paired.length pc
  obtain ⟨dxa, qa, xa, ya⟩ := ha.same s03
  obtain ⟨dxb, qb, xb, yb⟩ := hb.same s03
  obtain ⟨dxc, qc, xc, yc⟩ := hc.same s03
  have nle : rowsOf x = [] ↔ (as.length : Int) = 0 := by
    rw [la]
    constructor
    · intro h
      rw [h]
      rfl
    · intro h
      exact List.length_eq_zero_iff.mp (by omega)
  -- none, too many
  refine ⟨_, rfl, p1, _, rfl, .inl (.of ea), rfl, _, rfl, ?_⟩
  rw [List.length_map]
  by_cases c1 : rowsOf x = []
  · refine if_true_of (decide_eq_true (by rw [nle.mp c1])) ?_
    rw [if_pos c1] at kE
    exact ⟨_, rfl, a, A.Row, dxa, _, _, rfl, xa, R.cl, R.n1, lk1, fun d nd => flt_now (kE _ rfl) s03 d nd⟩
  refine if_false_of (decide_eq_false fun z => c1 (nle.mpr (V.int.inj z))) ?_
  rw [if_neg c1] at kE kO
  refine ⟨_, rfl, p1, _, rfl, .inl (.of ea), _, _, rfl, rfl, _, rfl, ?_⟩
  rw [List.length_map, la]
  by_cases c2 : Sx05.WORDS < (rowsOf x).length
  · have c2' : 30 < (rowsOf x).length := c2
    refine if_true_of (decide_eq_true (by omega)) ?_
    rw [if_pos c2] at kE
    exact ⟨_, rfl, a, A.Row, dxa, _, _, rfl, xa, R.cl, R.n1, lk1, fun d nd => flt_now (kE _ rfl) s03 d nd⟩
  have c2' : ¬ 30 < (rowsOf x).length := c2
  refine if_false_of (decide_eq_false (by omega)) ?_
  rw [if_neg c2] at kE kO
  -- as many
  refine ⟨_, rfl, p2, _, rfl, .inl (.of eb), _, rfl, p1, _, rfl, .inl (.of ea), rfl, _, rfl, ?_⟩
  rw [List.length_map, List.length_map, la, lb]
  by_cases c3 : (rowsOf m).length = (rowsOf x).length
  case neg =>
    refine if_true_of (by rw [decide_eq_false fun z => c3 (by have := V.int.inj z; omega)]; rfl) ?_
    rw [if_pos c3] at kE
    exact ⟨_, rfl, b, A.Row, dxb, _, _, rfl, xb, R.cl, R.n1, lk1, fun d nd => flt_now (kE _ rfl) s03 d nd⟩
  refine if_false_of (by rw [decide_eq_true (by rw [c3])]; rfl) ?_
  rw [if_neg (not_not_intro c3)] at kE kO
  refine ⟨_, rfl, p3, _, rfl, .inl (.of ec), _, rfl, p1, _, rfl, .inl (.of ea), rfl, _, rfl, ?_⟩
  rw [List.length_map, List.length_map, la, lc]
  by_cases c4 : (rowsOf g).length = (rowsOf x).length
  case neg =>
    refine if_true_of (by rw [decide_eq_false fun z => c4 (by have := V.int.inj z; omega)]; rfl) ?_
    rw [if_pos c4] at kE
    exact ⟨_, rfl, c, A.Row, dxc, _, _, rfl, xc, R.cl, R.n1, lk1, fun d nd => flt_now (kE _ rfl) s03 d nd⟩
  refine if_false_of (by rw [decide_eq_true (by rw [c4])]; rfl) ?_
  rw [if_neg (not_not_intro c4)] at kE kO
  -- word by word
  refine ⟨_, rfl, _, rfl, _, rfl, p1, p2, p3, _, _, _, rfl, .of ea, .of eb, .of ec, fun D nD => ?_⟩
  have s4 : Same H3 (upd H3 D (.lst [])) := Same.new nD
  refine lc_it (walk_abr (K := K) (a := p1) (b := p2) (c := p3) (xs := as.map V.ref) (ys := bs.map V.ref) (zs := cs.map V.ref) (by rw [List.length_map, List.length_map]; omega) (by rw [List.length_map, List.length_map]; omega))
    (fun i H' => ∃ (ds : List Addr) (ws : List Sx05.Word), Same H3 (Off H' D) ∧ H' D = some (.lst (ds.map V.ref)) ∧ ds.length ≤ i ∧ Paired (WordAt A.Word (Off (New H H') D)) ds ws ∧
      Sx05.wordsIn (rowsOf x) (rowsOf m) (rowsOf g) = (Sx05.wordsIn ((rowsOf x).drop i) ((rowsOf m).drop i) ((rowsOf g).drop i)).map fun l => ws ++ l) ?_ ?_ ?_ ?_
  · refine ⟨[], [], Off.old s4 nD, upd_same, Nat.le_refl _, .nil, ?_⟩
    simp only [List.drop_zero, List.nil_append]
    cases Sx05.wordsIn (rowsOf x) (rowsOf m) (rowsOf g) <;> rfl
  · rintro i H' hi ⟨ds, ws, s5, _⟩
    exact ⟨.of (Off.same _ _ (s5 _ _ ea)), .of (Off.same _ _ (s5 _ _ eb)), .of (Off.same _ _ (s5 _ _ ec))⟩
  · rintro i v H4 H5 hi ⟨ds, ws, s5, hD, hl, pw, hw⟩ ⟨T, v1, v2, v3, rfl, nT, rfl, e1, e2, e3⟩
    rw [List.length_map] at hi
    rw [List.getElem?_map] at e1 e2 e3
    obtain ⟨a1, ga1, rfl⟩ := Option.map_eq_some_iff.mp e1
    obtain ⟨b1, gb1, rfl⟩ := Option.map_eq_some_iff.mp e2
    obtain ⟨c1, gc1, rfl⟩ := Option.map_eq_some_iff.mp e3
    obtain ⟨rx, hx1, hx2⟩ := paired_get pa ga1
    obtain ⟨rm, hm1, hm2⟩ := paired_get pb gb1
    obtain ⟨rg, hg1, hg2⟩ := paired_get pc gc1
    have sT : Same H4 (upd H4 T (.tup [.ref a1, .ref b1, .ref c1])) := Same.new nT
    refine ⟨T, _, rfl, .of upd_same, rfl, _, _, rfl, _, _, rfl, _, _, rfl, rfl, rfl, yes_of ?_⟩
    have sO := Off.mono (p := D) sT
    have s6 := s5.trans sO
    have s7 := s6.trans Off.same
    have hD2 := sT _ _ hD
    have pw2 := Paired.mapP pw (G := WordAt A.Word (Off (New H (upd H4 T (.tup [.ref a1, .ref b1, .ref c1]))) D)) fun _ _ z => z.same (Off.mono (New.mono sT))
    generalize upd H4 T (.tup [.ref a1, .ref b1, .ref c1]) = H5 at *
    rw [wordsIn_step hx1 hm1 hg1] at hw
    have rw5 := (New.past nD s6).trans (SNew.to (H := H))
    refine ⟨_, rfl, _, rfl, _, rfl, SNew H D, a1, b1, c1, rx, rm, rg, rfl, ?_, hx2.same rw5, hm2.same rw5, hg2.same rw5, Nat.le_trans (rowsOf_sub hx1) lx, Nat.le_trans (rowsOf_sub hm1) lm, Nat.le_trans (rowsOf_sub hg1) lg, fun fl hfl => ?_, fun wd hwd H8 p8 s8 hW => ?_⟩
    · rintro y (hy | rfl)
      · exact fun z => hy ((s03.trans s7).free z)
      · rw [hD2]
        exact fun z => by cases z
    · rw [hfl] at hw
      exact (kE fl hw).same (s03.trans s7)
    · rw [hwd] at hw
      refine ⟨_, s8 _ _ hD2, ?_, ds ++ [p8], ws ++ [wd], ?_, ?_, ?_, ?_, ?_⟩
      · rw [List.length_map, sizeLine_eq]
        omega
      · rw [Off.upd]
        exact s6.trans (Off.mono s8)
      · rw [upd_same, List.map_append]
        rfl
      · rw [List.length_append]
        exact Nat.add_le_add_right hl 1
      · rw [New.off]
        exact paired_snoc (Paired.mapP pw2 fun _ _ z => z.same (Off.mono (New.mono s8))) (hW.same SNew.back)
      · rw [hw]
        cases Sx05.wordsIn (List.drop (i + 1) (rowsOf x)) (List.drop (i + 1) (rowsOf m)) (List.drop (i + 1) (rowsOf g)) with
        | error e => rfl
        | ok l =>
          show Except.ok (ws ++ (wd :: l)) = Except.ok ((ws ++ [wd]) ++ l)
          rw [List.append_assoc]
          rfl
  · rintro H' ⟨ds, ws, s5, hD, hl, pw, hw⟩
    rw [List.length_map, la, List.drop_length] at hw
    have hw2 : Sx05.wordsIn (rowsOf x) (rowsOf m) (rowsOf g) = .ok ws := by
      rw [hw]
      show Except.ok (ws ++ []) = Except.ok ws
      rw [List.append_nil]
    have fD : H D = none := s03.free nD
    exact kO ws hw2 _ D (s03.trans (s5.trans Off.same)) fD ⟨ds, (New.at fD).trans hD, Paired.mapP pw fun _ _ z => z.same Off.same⟩
end
end G

end

section
set_option Elab.async false
set_option linter.all false
set_option maxHeartbeats 2000000
namespace G
open PySem
/-! ### lines -/
abbrev is10 : Nat → Bool := fun c => ([10] : Bytes).contains c
theorem is10_eq (c : Nat) : is10 c = true ↔ c = 10 := by simp [is10]
def lastP : Bytes → Bytes → Bytes
  | had, [] => had
  | had, c :: r => if c = 10 then lastP [] r else lastP (had ++ [c]) r
theorem cutF_ne (m : Nat → Bool) : ∀ (l : Bytes) (p : Nat) (had : Bytes), cutF m p had l ≠ []
  | [], _, _ => fun h => by cases h
  | c :: r, p, had => by
    unfold cutF
    by_cases h : m c = true
    · rw [if_pos h]
      exact fun z => by cases z
    · rw [if_neg h]
      exact cutF_ne m r _ _
theorem linesFrom_eq : ∀ (l : Bytes) (p : Nat) (had : Bytes), Sx05.linesFrom p had l = if lastP had l = [] then .ok (cutF is10 p had l).dropLast else .error (1, p + l.length)
  | [], p, had => by
    unfold Sx05.linesFrom lastP
    rfl
  | c :: r, p, had => by
    have ih1 := linesFrom_eq r (p + 1) []
    have ih2 := linesFrom_eq r (p + 1) (had ++ [c])
    have e : p + 1 + r.length = p + (c :: r).length := by rw [List.length_cons]; omega
    unfold Sx05.linesFrom lastP cutF
    by_cases h : c = 10
    · rw [if_pos h, if_pos h, if_pos ((is10_eq c).mpr h), ih1, e]
      by_cases q : lastP [] r = []
      · rw [if_pos q, if_pos q, List.dropLast_cons_of_ne_nil (cutF_ne _ _ _ _)]
        rfl
      · rw [if_neg q, if_neg q]
        rfl
    · rw [if_neg h, if_neg h, if_neg fun z => h ((is10_eq c).mp z), ih2, e]
theorem lastP_nil : ∀ (l had : Bytes), l ≠ [] → (lastP had l = [] ↔ l.getLast? = some 10)
  | [], _, h => absurd rfl h
  | [c], had, _ => by
    unfold lastP
    by_cases h : c = 10
    · rw [if_pos h]
      simp [lastP, h]
    · rw [if_neg h]
      simp [lastP, h]
  | c :: d :: r, had, _ => by
    unfold lastP
    rw [List.getLast?_cons_cons]
    by_cases h : c = 10
    · rw [if_pos h]
      exact lastP_nil (d :: r) [] (by simp)
    · rw [if_neg h]
      exact lastP_nil (d :: r) (had ++ [c]) (by simp)
theorem read_eq (t : Bytes) (h : t ≠ []) : Sx05.read t = if t.getLast? = some 10 then Sx05.itemsFrom t.length ((cuts [10] (0, t)).dropLast.length + 1) 0 (cuts [10] (0, t)).dropLast else .error (1, t.length) := by
  unfold Sx05.read
  rw [if_neg h, linesFrom_eq]
  by_cases q : lastP [] t = []
  · rw [if_pos q, if_pos ((lastP_nil t [] h).mp q)]
    rfl
  · rw [if_neg q, if_neg fun z => q ((lastP_nil t [] h).mpr z)]
    rw [Nat.zero_add]
    rfl
/-- a text that is ended has a line -/
theorem lines_pos {t : Bytes} (h : t ≠ []) (q : t.getLast? = some 10) : 0 < (cuts [10] (0, t)).dropLast.length := by
  have key : ∀ (l : Bytes) (p : Nat) (had : Bytes), l ≠ [] → l.getLast? = some 10 → 2 ≤ (cutF is10 p had l).length := by
    intro l
    induction l with
    | nil => intro p had h; exact absurd rfl h
    | cons c r ih =>
      intro p had _ q
      unfold cutF
      by_cases hc : c = 10
      · rw [if_pos ((is10_eq c).mpr hc), List.length_cons]
        have := List.length_pos_iff.mpr (cutF_ne is10 r (p + 1) [])
        omega
      · rw [if_neg fun z => hc ((is10_eq c).mp z)]
        cases r with
        | nil =>
          simp at q
          exact absurd q hc
        | cons d r =>
          rw [List.getLast?_cons_cons] at q
          exact ih _ _ (by simp) q
  have := key t 0 [] h q
  rw [List.length_dropLast]
  show 0 < (cutF is10 0 [] t).length - 1
  omega
theorem lines_sub {t : Bytes} {i : Nat} {x : Seg} (h : (cuts [10] (0, t)).dropLast[i]? = some x) : x.2.length ≤ t.length := cuts_sub ((List.dropLast_sublist _).subset (List.mem_of_getElem? h))
theorem lines_count (t : Bytes) : (cuts [10] (0, t)).dropLast.length ≤ t.length := by
  have := cuts_length [10] (0, t)
  rw [List.length_dropLast]
  simp only at this
  omega
/-! ### items -/
def freeL (ls : List Seg) (i : Nat) : Bytes := match ls[i]? with
  | some x => if x.2.take 1 = [39] then x.2 else []
  | none => []
def freeO (b : Bytes) : Option Bytes := match b with
  | [] => none
  | _ :: t => some t
def freeB : Option Bytes → Bytes
  | none => []
  | some t => 39 :: t
theorem freeL_form (ls : List Seg) (i : Nat) : freeL ls i = [] ∨ ∃ t, freeL ls i = 39 :: t := by
  unfold freeL
  cases h : ls[i]? with
  | none => exact .inl rfl
  | some x =>
    simp only []
    by_cases q : x.2.take 1 = [39]
    · rw [if_pos q]
      refine .inr ?_
      cases e : x.2 with
      | nil =>
        rw [e] at q
        simp at q
      | cons c r =>
        rw [e] at q
        simp at q
        exact ⟨r, by rw [q]⟩
    · rw [if_neg q]
      exact .inl rfl
theorem freeB_freeO (ls : List Seg) (i : Nat) : freeB (freeO (freeL ls i)) = freeL ls i := by
  rcases freeL_form ls i with h | ⟨t, h⟩
  · rw [h]
    rfl
  · rw [h]
    rfl
/-- where the line behind an item stands -/
def behind (ls : List Seg) (i : Nat) : Nat := if (freeL ls (i + 3)).length = 0 then i + 3 else i + 4
theorem drop3 {ls : List Seg} {i : Nat} {a b c : Seg} (ha : ls[i]? = some a) (hb : ls[i + 1]? = some b) (hc : ls[i + 2]? = some c) : ls.drop i = a :: b :: c :: ls.drop (i + 3) := by
  obtain ⟨a1, a2⟩ := List.getElem?_eq_some_iff.mp ha
  obtain ⟨b1, b2⟩ := List.getElem?_eq_some_iff.mp hb
  obtain ⟨c1, c2⟩ := List.getElem?_eq_some_iff.mp hc
  rw [List.drop_eq_getElem_cons a1, List.drop_eq_getElem_cons b1, List.drop_eq_getElem_cons c1, a2, b2, c2]
theorem items_few {n f k : Nat} {ls : List Seg} {i : Nat} (h : ls.length < i + 3) : Sx05.itemsFrom n (f + 1) k (ls.drop i) = .error (1, n) := by
  have l := List.length_drop (i := i) (l := ls)
  match e : ls.drop i, l with
  | [], _ => rfl
  | [_], _ => rfl
  | [_, _], _ => rfl
  | a :: b :: c :: r, l =>
    simp only [List.length_cons] at l
    omega
theorem behind_le {ls : List Seg} {i : Nat} (h : i + 3 ≤ ls.length) : behind ls i ≤ ls.length := by
  unfold behind
  split
  · exact h
  · rename_i q
    unfold freeL at q
    cases e : ls[i + 3]? with
    | none =>
      rw [e] at q
      simp at q
    | some x =>
      have := (List.getElem?_eq_some_iff.mp e).1
      omega
/-- one item, as the specification goes on -/
theorem items_step {n f k : Nat} {ls : List Seg} {i : Nat} {a b c : Seg} (ha : ls[i]? = some a) (hb : ls[i + 1]? = some b) (hc : ls[i + 2]? = some c) :
    Sx05.itemsFrom n (f + 1) k (ls.drop i) = if 60 ≤ k then .error (7, a.1) else (Sx05.threeIn a b c).bind fun w =>
      match ls[behind ls i]? with
      | none => .ok [⟨w, freeO (freeL ls (i + 3))⟩]
      | some x => if 0 < x.2.length ∨ behind ls i + 1 = ls.length then .error (1, x.1) else (Sx05.itemsFrom n f (k + 1) (ls.drop (behind ls i + 1))).map fun l => ⟨w, freeO (freeL ls (i + 3))⟩ :: l := by
  rw [drop3 ha hb hc]
  conv =>
    lhs
    unfold Sx05.itemsFrom
  rw [show Sx05.ITEMS = 60 from rfl]
  by_cases hk : 60 ≤ k
  · rw [if_pos hk, if_pos hk]
  rw [if_neg hk, if_neg hk]
  congr 1
  funext w
  cases h3 : ls[i + 3]? with
  | none =>
    have hl := List.getElem?_eq_none_iff.mp h3
    have ef : freeL ls (i + 3) = [] := by unfold freeL; rw [h3]
    have eb : behind ls i = i + 3 := by unfold behind; rw [ef]; rfl
    rw [List.drop_eq_nil_of_le hl, eb, h3, ef]
    rfl
  | some x =>
    obtain ⟨g1, g2⟩ := List.getElem?_eq_some_iff.mp h3
    rw [List.drop_eq_getElem_cons g1, g2]
    obtain ⟨p, e⟩ := x
    -- what stands behind
    have tail : ∀ (j : Nat) (it : Sx05.Item), (match ls.drop j with
        | [] => Except.ok [it]
        | (q, []) :: t => if t = [] then Except.error (1, q) else (Sx05.itemsFrom n f (k + 1) t).map fun l => it :: l
        | (q, _) :: _ => Except.error (1, q)) = (match ls[j]? with
        | none => .ok [it]
        | some x => if 0 < x.2.length ∨ j + 1 = ls.length then .error (1, x.1) else (Sx05.itemsFrom n f (k + 1) (ls.drop (j + 1))).map fun l => it :: l : Except Sx05.Fault (List Sx05.Item)) := by
      intro j it
      cases hj : ls[j]? with
      | none =>
        rw [List.drop_eq_nil_of_le (List.getElem?_eq_none_iff.mp hj)]
      | some y =>
        obtain ⟨y1, y2⟩ := List.getElem?_eq_some_iff.mp hj
        rw [List.drop_eq_getElem_cons y1, y2]
        obtain ⟨q, bs⟩ := y
        cases bs with
        | cons d bs =>
          show Except.error (1, q) = if 0 < (d :: bs).length ∨ _ then _ else _
          rw [if_pos (.inl (by simp))]
        | nil =>
          show (if ls.drop (j + 1) = [] then Except.error (1, q) else _) = if 0 < ([] : Bytes).length ∨ _ then _ else _
          have iff : ls.drop (j + 1) = [] ↔ j + 1 = ls.length := by
            rw [List.drop_eq_nil_iff]
            omega
          by_cases hz : j + 1 = ls.length
          · rw [if_pos (iff.mpr hz), if_pos (.inr hz)]
          · rw [if_neg fun z => hz (iff.mp z), if_neg fun z => z.elim (fun y => absurd y (by simp)) hz]
    by_cases q : ∃ t, e = 39 :: t
    · obtain ⟨t, rfl⟩ := q
      have ef : freeL ls (i + 3) = 39 :: t := by
        unfold freeL
        rw [h3]
        simp
      have eb : behind ls i = i + 4 := by unfold behind; rw [ef]; rfl
      rw [eb, ef]
      exact tail (i + 4) ⟨w, some t⟩
    · have ef : freeL ls (i + 3) = [] := by
        rcases freeL_form ls (i + 3) with z | ⟨t, z⟩
        · exact z
        · exfalso
          unfold freeL at z
          rw [h3] at z
          simp only [] at z
          split at z
          · exact q ⟨t, z⟩
          · cases z
      have eb : behind ls i = i + 3 := by unfold behind; rw [ef]; rfl
      rw [eb, ef]
      have z := tail (i + 3) ⟨w, none⟩
      rw [List.drop_eq_getElem_cons g1, g2] at z
      refine Eq.trans ?_ z
      cases e with
      | nil => rfl
      | cons d r =>
        by_cases hd : d = 39
        · exact absurd ⟨r, by rw [hd]⟩ q
        · have e : (match (d :: r : Sx05.Bytes) with
              | 39 :: t => ((⟨w, some t⟩ : Sx05.Item), ls.drop (i + 3 + 1))
              | _ => (⟨w, none⟩, (p, d :: r) :: ls.drop (i + 3 + 1)) : Sx05.Item × List (Nat × Sx05.Bytes)) = (⟨w, none⟩, (p, d :: r) :: ls.drop (i + 3 + 1)) := by
            split
            · rename_i t heq
              exact absurd ⟨t, heq⟩ q
            · rfl
          exact congrArg (fun X : Sx05.Item × List Seg => (match X.2 with
            | [] => Except.ok [X.1]
            | (q, []) :: t => if t = [] then Except.error (1, q) else (Sx05.itemsFrom n f (k + 1) t).map fun l => X.1 :: l
            | (q, _) :: _ => Except.error (1, q) : Except Sx05.Fault (List Sx05.Item))) e
end G

end

section
set_option Elab.async false
set_option linter.all false
set_option maxRecDepth 100000
set_option maxHeartbeats 4000000
namespace G
open PySem PySem.Spec PyProof.Rows L2 GR
def spFree (A : Adr) : Sp := fun vs H Q _ => ∃ (S : Addr → Prop) (p : Addr) (ls : List Seg) (i : Nat), vs = [.ref p, ni i] ∧ (∀ b, S b → H b ≠ none) ∧ Rows A.Row (Hd S H) p ls ∧
  ∀ H' q, Same H H' → Hd S H' q = some (.lst (nis (freeL ls i))) → Q (.ref q) H'
def spCheck (A : Adr) : Sp := fun vs H Q E => ∃ (p : Addr) (ls : List Seg) (i : Nat), vs = [.ref p, ni i] ∧ i ≤ ls.length ∧ Rows A.Row H p ls ∧
  (∀ x, ls[i]? = some x → (0 < x.2.length ∨ i + 1 = ls.length) → isFlt A.Fault E H (1, x.1)) ∧
  ((∀ x, ls[i]? = some x → ¬ (0 < x.2.length ∨ i + 1 = ls.length)) → Q .non H)
theorem rows_get {C : Addr} {H : Hp} {p : Addr} {ls : List Seg} (h : Rows C H p ls) {i : Nat} {x : Seg} (e : ls[i]? = some x) : ∃ (as : List Addr) (a dx q : Addr), H p = some (.lst (as.map V.ref)) ∧ as.length = ls.length ∧ (as.map V.ref)[i]? = some (.ref a) ∧
    H a = some (.ins C dx [("place", ni x.1), ("signs", .ref q)]) ∧ H q = some (.lst (nis x.2)) := by
  obtain ⟨as, hp, pr⟩ := h
  obtain ⟨a, ha, dx, q, e1, e2⟩ := paired_getR pr e
  exact ⟨as, a, dx, q, hp, Paired.length pr, by rw [List.getElem?_map, ha]; rfl, e1, e2⟩
theorem rows_len {C : Addr} {H : Hp} {p : Addr} {ls : List Seg} (h : Rows C H p ls) : ∃ as : List Addr, H p = some (.lst (as.map V.ref)) ∧ as.length = ls.length := by
  obtain ⟨as, hp, pr⟩ := h
  exact ⟨as, hp, Paired.length pr⟩
theorem cutV_take1 (l : Bytes) : cutV (nis l) none (some 1) = nis (l.take 1) := by
  unfold cutV
  rw [HT.sIx_none, List.drop_zero, Nat.sub_zero, nis_length, show (some 1 : Option Int) = some ((1 : Nat) : Int) from rfl, HT.sIx_nat]
  unfold nis
  rw [← List.map_take]
  congr 1
  cases l with
  | nil => rfl
  | cons c r =>
    rw [List.length_cons, Nat.min_eq_left (by omega)]
section
variable {P : Program} {w : World} {K : PySem.W.Frag} {mg : Str → Option Value} {base : Heap} {A : Adr}
theorem sc_free_line : FnScope ["lines", "at"] ["lines", "at"] (defScope s_free_line) := ⟨rfl, rfl, rfl, by decide +kernel, rfl, by decide +kernel, by decide +kernel⟩
theorem ok_free_line {f : Addr} {fd : FuncData} (F : Fun K "free_line" "free_line" s_free_line f fd) (R : Rec2 P w K mg base "Row" A.Row "place" "signs") (mLen : mg "len" = none) {t39 : Tok} (m39 : mg "QUOTE" = some (.int 39 t39)) :
    FnOk P w K mg base CX0 1 f fd ["lines", "at"] (spFree A) := by
  refine F.ok sc_free_line (fun vs H Q E h => ?_) (fun cdv Ar outer s H vs Q E hr h => ?_)
  · obtain ⟨S, p, ls, i, rfl, _⟩ := h
    rfl
  refine ⟨_, pss_cons (ps_if (pw_and (pt_cmpR op_lt (pv 1) (pe_callB call_len_seq (by rfl) mLen PySem.boot_len (by exact (pa_cons (pv 0) pa_nil))) (nomark _))
      (pw_and1 (pt_cmpR (op_eqD hr.units) (pe_slice sl_list (pe_fld (pe_ix ix_list (pv 0) (pv 1) (fun _ _ => rfl)) rfl) po_none (po_some pe_int)) (pe_lst (by exact (pa_cons (pe_glob (v := .int 39) rfl m39 ⟨_, rfl⟩) pa_nil))) (nomark _)))).pt
      (pss_one (ps_ret (pe_fld (pe_ix ix_list (pv 0) (pv 1) (fun _ _ => rfl)) rfl))) pss_nil)
    (pss_one (ps_ret (pe_lst pa_nil))), ?_⟩
  obtain ⟨S, p, ls, i, rfl, hS, hR, k⟩ := h
  obtain ⟨as, hp, la⟩ := rows_len hR
  have hpH := Hd.sub _ _ hp
  refine ⟨_, rfl, _, rfl, p, _, rfl, .inl (.of hpH), _, _, rfl, rfl, _, rfl, ?_⟩
  rw [List.length_map, la]
  have fin : ∀ {H9 : Hp}, Same H H9 → freeL ls i = [] → (tRet (tLst tNil)) { nx := fun _ H' => Q .non H', rt := Q } (start ["lines", "at"] [.ref p, ni i]) H9 := fun {H9} s9 hf => by
    refine ⟨Nat.zero_le _, fun q nq => k _ q (s9.trans (Same.new nq)) ?_⟩
    rw [Hd.at fun z => hS q z (s9.free nq), upd_same, hf]
    rfl
  by_cases c1 : i < ls.length
  case neg =>
    refine if_false_of (decide_eq_false (by omega)) ?_
    refine iteF (fin (Same.refl _) ?_)
    unfold freeL
    rw [List.getElem?_eq_none (by omega)]
  refine if_true_of (decide_eq_true (by omega)) ?_
  have hx : ls[i]? = some ls[i] := List.getElem?_eq_getElem c1
  obtain ⟨as2, a, dx, q, hp2, _, hi, e1, e2⟩ := rows_get hR hx
  have hp2H := Hd.sub _ _ hp2
  have e1H := Hd.sub _ _ e1
  have e2H := Hd.sub _ _ e2
  refine ⟨_, rfl, _, rfl, p, _, _, _, rfl, rfl, .of hp2H, atI_nat hi, a, A.Row, dx, _, _, rfl, e1H, R.cl, R.n2, lk2 R.ne, _, rfl, q, _, rfl, .of e2H, fun n nn => ?_⟩
  rw [cutV_take1] at *
  have s1 : Same H (upd H n (.lst (nis (ls[i].2.take 1)))) := Same.new nn
  refine ⟨by show 1 ≤ sizeLine; decide, fun n2 nn2 => ?_⟩
  have s2 := Same.new (o := .lst [.int 39]) nn2
  refine ⟨dB _, dB [39], dp_dB (s2 _ _ upd_same), dp_dB (l := [39]) upd_same, shaped_dB _, shaped_dB _, _, rfl, ?_⟩
  rw [eqv_dB]
  have s12 := s1.trans s2
  by_cases c2 : ls[i].2.take 1 = [39]
  · refine if_true_of (decide_eq_true c2) ?_
    refine ⟨_, rfl, _, rfl, p, _, _, _, rfl, rfl, .of (s12 _ _ hp2H), atI_nat hi, a, A.Row, dx, _, _, rfl, s12 _ _ e1H, R.cl, R.n2, lk2 R.ne, k _ q s12 ?_⟩
    have ef : freeL ls i = ls[i].2 := by
      unfold freeL
      rw [hx]
      exact if_pos c2
    rw [ef]
    exact Hd.mono s12 _ _ e2
  · refine if_false_of (decide_eq_false c2) (fin s12 ?_)
    unfold freeL
    rw [hx]
    exact if_neg c2
theorem sc_check_line_between : FnScope ["lines", "at"] ["lines", "at"] (defScope s_check_line_between) := ⟨rfl, rfl, rfl, by decide +kernel, rfl, by decide +kernel, by decide +kernel⟩
theorem ok_check_line_between {f : Addr} {fd : FuncData} (F : Fun K "check_line_between" "check_line_between" s_check_line_between f fd) (R : Rec2 P w K mg base "Row" A.Row "place" "signs") (T : FltT P w K mg base A.Fault) (mLen : mg "len" = none) {t1 : Tok} (m1 : mg "BAD_LINES" = some (.int 1 t1)) :
    FnOk P w K mg base (L2.CX P w) 3 f fd ["lines", "at"] (spCheck A) := by
  refine F.okX sc_check_line_between (fun vs H Q E h => ?_) (fun cdv Ar outer s H vs Q E hr h => ?_)
  · obtain ⟨p, ls, i, rfl, _⟩ := h
    rfl
  refine ⟨_, pss_cons (ps_if (pt_cmpR op_eq (pv 1) (pe_callB call_len_seq (by rfl) mLen PySem.boot_len (by exact (pa_cons (pv 0) pa_nil))) (nomark _)) (pss_one ps_retN) pss_nil)
    (pss_one (ps_if (pw_or (pt_cmpR op_gt (pe_callB call_len_seq (by rfl) mLen PySem.boot_len (by exact (pa_cons (pe_fld (pe_ix ix_list (pv 0) (pv 1) (fun _ _ => rfl)) rfl) pa_nil))) pe_int (nomark _))
      (pw_or1 (pt_cmpR op_eq (pe_op op_add (pv 1) pe_int) (pe_callB call_len_seq (by rfl) mLen PySem.boot_len (by exact (pa_cons (pv 0) pa_nil))) (nomark _)))).pt
      (pss_one (ps_flt T hr rfl (takes_of rfl rfl rfl rfl) (by exact (pa_cons (pe_glob (v := .int 1) rfl m1 ⟨_, rfl⟩) (pa_cons (pe_fld (pe_ix ix_list (pv 0) (pv 1) (fun _ _ => rfl)) rfl) pa_nil))))) pss_nil)), ?_⟩
  obtain ⟨p, ls, i, rfl, hi, hR, kE, kO⟩ := h
  obtain ⟨as, hp, la⟩ := rows_len hR
  refine ⟨_, rfl, _, rfl, p, _, rfl, .inl (.of hp), rfl, _, rfl, ?_⟩
  rw [List.length_map, la]
  by_cases c1 : i = ls.length
  · refine if_true_of (decide_eq_true (by rw [c1])) ?_
    refine kO fun x hx => ?_
    rw [List.getElem?_eq_none (by omega)] at hx
    cases hx
  refine if_false_of (decide_eq_false fun z => c1 (by have := V.int.inj z; omega)) ?_
  have hx : ls[i]? = some ls[i] := List.getElem?_eq_getElem (by omega)
  obtain ⟨as2, a, dx, q, hp2, _, hi2, e1, e2⟩ := rows_get hR hx
  refine ⟨_, rfl, _, rfl, p, _, _, _, rfl, rfl, .of hp2, atI_nat hi2, a, A.Row, dx, _, _, rfl, e1, R.cl, R.n2, lk2 R.ne, q, _, rfl, .inl (.of e2), _, _, rfl, rfl, _, rfl, ?_⟩
  rw [nis_length]
  have bad : (0 < ls[i].2.length ∨ i + 1 = ls.length) → tFlt A.Fault (fun cls d _ H => E cls d H) (tC (.int 1)) (tFld K (tOp (rIxL K) (tVar 0) (tVar 1)) "place") { nx := fun _ H' => Q .non H', rt := Q } (start ["lines", "at"] [.ref p, ni i]) H := fun hz =>
    ⟨_, rfl, _, rfl, p, _, _, _, rfl, rfl, .of hp2, atI_nat hi2, a, A.Row, dx, _, _, rfl, e1, R.cl, R.n1, lk1, fun d nd => flt_now (kE _ hx hz) (Same.refl _) d nd⟩
  by_cases c2 : 0 < ls[i].2.length
  · refine if_true_of (decide_eq_true (by omega)) ?_
    exact iteT (bad (.inl c2))
  refine if_false_of (decide_eq_false (by omega)) ?_
  refine ⟨_, rfl, _, _, rfl, rfl, _, rfl, p, _, rfl, .inl (.of hp), rfl, _, rfl, ?_⟩
  rw [List.length_map, la]
  by_cases c3 : i + 1 = ls.length
  · refine if_true_of (decide_eq_true (by rw [← c3]; rfl)) ?_
    exact bad (.inr c3)
  refine if_false_of (decide_eq_false fun z => c3 (by have := V.int.inj z; omega)) ?_
  refine kO fun x hx2 hz => ?_
  rw [hx] at hx2
  cases hx2
  exact hz.elim c2 c3
end
end G

end

section
set_option Elab.async false
set_option linter.all false
set_option maxRecDepth 100000
set_option maxHeartbeats 4000000
namespace G
open PySem PySem.Spec PyProof.Rows L2 GR
def ItemAt (A : Adr) (H : Hp) (a : Addr) (x : Sx05.Item) : Prop := ∃ dx p q, H a = some (.ins A.Item dx [("words", .ref p), ("free", .ref q)]) ∧ Wds A.Word H p x.words ∧ H q = some (.lst (nis (freeB x.free)))
def Items (A : Adr) (H : Hp) (p : Addr) (l : List Sx05.Item) : Prop := ∃ as : List Addr, H p = some (.lst (as.map V.ref)) ∧ Paired (ItemAt A H) as l
theorem ItemAt.same {A : Adr} {H H' : Hp} (s : Same H H') {a : Addr} {x : Sx05.Item} (h : ItemAt A H a x) : ItemAt A H' a x := by
  obtain ⟨dx, p, q, e1, e2, e3⟩ := h
  exact ⟨dx, p, q, s _ _ e1, e2.same s, s _ _ e3⟩
theorem Items.same {A : Adr} {H H' : Hp} (s : Same H H') {p : Addr} {l : List Sx05.Item} (h : Items A H p l) : Items A H' p l := by
  obtain ⟨as, e, r⟩ := h
  exact ⟨as, s _ _ e, Paired.mapP r fun _ _ z => z.same s⟩
def spEntries (A : Adr) : Sp := fun vs H Q E => ∃ (q : Addr) (t : Bytes), vs = [.ref q] ∧ H q = some (.lst (nis t)) ∧ t.length ≤ 7000 ∧ (∀ f, Sx05.read t = .error f → isFlt A.Fault E H f) ∧
  (∀ l, Sx05.read t = .ok l → ∀ H' p, Same H H' → H p = none → Items A (New H H') p l → Q (.ref p) H')
theorem getLast_some : ∀ {t : Bytes} (h : t ≠ []), t.getLast? = some (t.getLast h)
  | [], h => absurd rfl h
  | _ :: _, _ => rfl
section
variable {P : Program} {w : World} {K : PySem.W.Frag} {mg : Str → Option Value} {base : Heap} {A : Adr} {f1 f2 f3 f4 : Addr}
theorem sc_entries_of : FnScope ["text", "lines", "entries", "at", "words", "free"] ["text"] (defScope s_entries_of) := ⟨rfl, rfl, rfl, by decide +kernel, rfl, by decide +kernel, by decide +kernel⟩
theorem ok_entries_of {f : Addr} {fd : FuncData} (F : Fun K "entries_of" "entries_of" s_entries_of f fd) (R : Rec2 P w K mg base "Row" A.Row "place" "signs") (RI : Rec2 P w K mg base "Item" A.Item "words" "free") (T : FltT P w K mg base A.Fault)
    (D1 : Def P w K mg base CX0 4 "lines_of" f1 ["text"] (spLines A)) (D2 : Def P w K mg base (L2.CX P w) 6 "words_of" f2 ["first", "second", "third"] (spWordsOf A)) (D3 : Def P w K mg base CX0 1 "free_line" f3 ["lines", "at"] (spFree A))
    (D4 : Def P w K mg base (L2.CX P w) 3 "check_line_between" f4 ["lines", "at"] (spCheck A)) (mLen : mg "len" = none)
    {t1 t7 t10 t60 : Tok} (m1 : mg "BAD_LINES" = some (.int 1 t1)) (m7 : mg "TOO_MANY" = some (.int 7 t7)) (m10 : mg "LINE_END" = some (.int 10 t10)) (m60 : mg "MOST_ITEMS" = some (.int 60 t60)) :
    FnOk P w K mg base (L2.CX P w) 7 f fd ["text"] (spEntries A) := by
  refine F.okX sc_entries_of (fun vs H Q E h => ?_) (fun cdv Ar outer s H vs Q E hr h => ?_)
  · obtain ⟨q, t, rfl, _⟩ := h
    rfl
  have pc : ∀ {X : Cx}, (tk : Takes X fun cls d _ H => E cls d H) → Passes (L2.CX X.prog X.w) X E := fun tk => passes_call tk fun _ _ _ _ z => z
  refine ⟨_, pss_cons (ps_if (pt_cmpR op_eq (pe_callB call_len_seq (by rfl) mLen PySem.boot_len (by exact (pa_cons (pv 0) pa_nil))) pe_int (nomark _)) (pss_one (ps_ret (pe_lst pa_nil))) pss_nil)
    (pss_cons (ps_if (pt_cmpR op_ne (pe_ix ix_list (pv 0) (pe_un un_neg pe_int) (fun _ _ => rfl)) (pe_glob (v := .int 10) rfl m10 ⟨_, rfl⟩) (nomark _))
      (pss_one (ps_flt T hr rfl (takes_of rfl rfl rfl rfl) (by exact (pa_cons (pe_glob (v := .int 1) rfl m1 ⟨_, rfl⟩) (pa_cons (pe_callB call_len_seq (by rfl) mLen PySem.boot_len (by exact (pa_cons (pv 0) pa_nil))) pa_nil))))) pss_nil)
    (pss_cons (ps_set (i := 1) sc_entries_of.nd rfl (.inl rfl) (pe_def D1 hr pass0 (pa_cons (pv 0) pa_nil)))
    (pss_cons (ps_set (i := 2) sc_entries_of.nd rfl (.inl rfl) (pe_lst pa_nil))
    (pss_cons (ps_set (i := 3) sc_entries_of.nd rfl (.inl rfl) pe_int)
    (pss_cons (ps_while (passes_of rfl) (pt_cmpR op_lt (pv 3) (pe_callB call_len_seq (by rfl) mLen PySem.boot_len (by exact (pa_cons (pv 1) pa_nil))) (nomark _))
      (pss_cons (ps_if (pt_cmpR op_gt (pe_op op_add (pv 3) pe_int) (pe_callB call_len_seq (by rfl) mLen PySem.boot_len (by exact (pa_cons (pv 1) pa_nil))) (nomark _))
        (pss_one (ps_flt T hr rfl (takes_of rfl rfl rfl rfl) (by exact (pa_cons (pe_glob (v := .int 1) rfl m1 ⟨_, rfl⟩) (pa_cons (pe_callB call_len_seq (by rfl) mLen PySem.boot_len (by exact (pa_cons (pv 0) pa_nil))) pa_nil))))) pss_nil)
      (pss_cons (ps_if (pt_cmpR op_eq (pe_callB call_len_seq (by rfl) mLen PySem.boot_len (by exact (pa_cons (pv 2) pa_nil))) (pe_glob (v := .int 60) rfl m60 ⟨_, rfl⟩) (nomark _))
        (pss_one (ps_flt T hr rfl (takes_of rfl rfl rfl rfl) (by exact (pa_cons (pe_glob (v := .int 7) rfl m7 ⟨_, rfl⟩) (pa_cons (pe_fld (pe_ix ix_list (pv 1) (pv 3) (fun _ _ => rfl)) rfl) pa_nil))))) pss_nil)
      (pss_cons (ps_set (i := 4) sc_entries_of.nd rfl (.inl rfl) (pe_def D2 hr (pc (takes_of rfl rfl rfl rfl)) (by exact (pa_cons (pe_ix ix_list (pv 1) (pv 3) (fun _ _ => rfl)) (pa_cons (pe_ix ix_list (pv 1) (pe_op op_add (pv 3) pe_int) (fun _ _ => rfl)) (pa_cons (pe_ix ix_list (pv 1) (pe_op op_add (pv 3) pe_int) (fun _ _ => rfl)) pa_nil))))))
      (pss_cons (ps_set (i := 5) sc_entries_of.nd rfl (.inl rfl) (pe_def D3 hr pass0 (pa_cons (pv 1) (pa_cons (pe_op op_add (pv 3) pe_int) pa_nil))))
      (pss_cons (ps_expr (pe_bm PySem.F.plainAttrs_list PySem.F.slot_list_append PySem.F.type_list_append mt_append (pv 2) (pa_cons (pe_rec2 RI hr (pa_cons (pv 4) (pa_cons (pv 5) pa_nil))) pa_nil)))
      (pss_cons (ps_aug (i := 3) sc_entries_of.nd rfl (.inl rfl) (pe_ifExp (pt_cmpR op_eq (pe_callB call_len_seq (by rfl) mLen PySem.boot_len (by exact (pa_cons (pv 5) pa_nil))) pe_int (nomark _)) pe_int pe_int) in_add)
      (pss_cons (ps_expr (pe_def D4 hr (pc (takes_of rfl rfl rfl rfl)) (by exact (pa_cons (pv 1) (pa_cons (pv 3) pa_nil)))))
      (pss_one (ps_aug (i := 3) sc_entries_of.nd rfl (.inl rfl) pe_int in_add))))))))))
    (pss_one (ps_ret (pv 2)))))))), ?_⟩
  obtain ⟨q, t, rfl, hq, lt, kE, kO⟩ := h
  refine ⟨_, rfl, q, _, rfl, .inl (.of hq), rfl, _, rfl, ?_⟩
  rw [nis_length]
  by_cases c1 : t = []
  · refine if_true_of (decide_eq_true (by rw [c1]; rfl)) ?_
    refine ⟨Nat.zero_le _, fun p np => ?_⟩
    refine kO [] (by rw [c1]; rfl) _ p (Same.new np) np ⟨[], (New.at np).trans upd_same, .nil⟩
  have tpos : 0 < t.length := List.length_pos_iff.mpr c1
  refine if_false_of (decide_eq_false fun z => by have := V.int.inj z; omega) ?_
  rw [read_eq t c1] at kE kO
  -- the last byte
  have hlast : t = t.dropLast ++ [t.getLast c1] := (List.dropLast_concat_getLast c1).symm
  have hat : atI (nis t) (-1) = some (ni (t.getLast c1)) := by
    have z := atI_last (nis t.dropLast) (ni (t.getLast c1))
    have e : nis t.dropLast ++ [ni (t.getLast c1)] = nis t := by
      conv => rhs; rw [hlast]
      unfold nis
      rw [List.map_append]
      rfl
    rw [e] at z
    exact z
  refine ⟨_, rfl, _, rfl, q, _, _, _, rfl, rfl, .of hq, hat, rfl, _, rfl, ?_⟩
  have elast : t.getLast? = some (t.getLast c1) := getLast_some c1
  by_cases c2 : t.getLast c1 = 10
  case neg =>
    refine if_true_of (by rw [decide_eq_false fun z => c2 (by have := V.int.inj z; omega)]; rfl) ?_
    rw [if_neg (by rw [elast]; exact fun z => c2 (Option.some.inj z))] at kE
    refine ⟨_, rfl, q, _, rfl, .inl (.of hq), fun d nd => ?_⟩
    rw [nis_length]
    exact flt_now (kE _ rfl) (Same.refl _) d nd
  refine if_false_of (by rw [decide_eq_true (by rw [c2]; rfl)]; rfl) ?_
  have elast10 : t.getLast? = some 10 := by rw [elast, c2]
  rw [if_pos elast10] at kE kO
  refine ⟨_, rfl, q, t, rfl, hq, lt, fun H1 L s1 nL hL => ?_⟩
  generalize hls : (cuts [10] (0, t)).dropLast = ls at hL kE kO
  have lpos : 0 < ls.length := by rw [← hls]; exact lines_pos c1 elast10
  have lsub : ∀ {i : Nat} {x : Seg}, ls[i]? = some x → x.2.length ≤ 7000 := fun h => by
    rw [← hls] at h
    exact Nat.le_trans (lines_sub h) lt
  have lcnt : ls.length ≤ 7000 := by rw [← hls]; exact Nat.le_trans (lines_count t) lt
  refine ⟨Nat.zero_le _, fun e ne => ?_⟩
  have s2 : Same H1 (upd H1 e (.lst [])) := Same.new ne
  have fe : H e = none := s1.free ne
  -- the loop
  refine ⟨fun m σ H' => ∃ (i : Nat) (as : List Addr) (its : List Sx05.Item) (v4 v5 : Option V), m = ls.length + 2 - i ∧ σ = [some (.ref q), some (.ref L), some (.ref e), some (ni i), v4, v5] ∧ Same H1 (Off H' e) ∧
      H' e = some (.lst (as.map V.ref)) ∧ Paired (ItemAt A (Off (New H H') e)) as its ∧ its.length ≤ 60 ∧
      ((i < ls.length ∧ its.length ≤ i ∧ Sx05.itemsFrom t.length (ls.length + 1) 0 ls = (Sx05.itemsFrom t.length (ls.length - its.length + 1) its.length (ls.drop i)).map fun l => its ++ l) ∨
        (i = ls.length + 1 ∧ Sx05.itemsFrom t.length (ls.length + 1) 0 ls = .ok its)), ⟨_, 0, [], [], none, none, rfl, rfl, Off.old s2 ne, upd_same, .nil, by decide, .inl ⟨lpos, Nat.le_refl _, ?_⟩⟩, ?_⟩
  · simp only [List.drop_zero, List.nil_append, List.length_nil, Nat.sub_zero]
    cases Sx05.itemsFrom t.length (ls.length + 1) 0 ls <;> rfl
  rintro m σ H2 ⟨i, as, its, v4, v5, rfl, rfl, s3, he, pr, l60, hsp⟩
  have lits : as.length = its.length := Paired.length pr
  have s13 : Same H1 H2 := s3.trans Off.same
  have s03 : Same H H2 := s1.trans s13
  have hL2 : Rows A.Row H2 L ls := (hL.same New.sub).same s13
  obtain ⟨bs, hbs, lb⟩ := rows_len hL2
  refine ⟨_, rfl, _, rfl, L, _, rfl, .inl (.of hbs), _, _, rfl, rfl, _, rfl, ?_⟩
  rw [List.length_map, lb]
  rcases hsp with ⟨hi, hk, hsp⟩ | ⟨hi, hsp⟩
  case inr =>
    refine if_false_of (decide_eq_false (by omega)) ?_
    exact ⟨_, rfl, kO its hsp _ e s03 fe ⟨as, (New.at fe).trans he, Paired.mapP pr fun _ _ z => z.same Off.same⟩⟩
  refine if_true_of (decide_eq_true (by omega)) ?_
  refine ⟨fun σ' H' => ∃ m', m' < ls.length + 2 - i ∧ _, fun σ' H' z => z, ?_⟩
  -- three lines
  refine ⟨_, rfl, _, _, rfl, rfl, _, rfl, L, _, rfl, .inl (.of hbs), _, _, rfl, rfl, _, rfl, ?_⟩
  rw [List.length_map, lb]
  by_cases c3 : ls.length < i + 3
  · refine if_true_of (decide_eq_true (by omega)) ?_
    rw [items_few c3] at hsp
    refine ⟨_, rfl, q, _, rfl, .inl (.of (s03 _ _ hq)), fun d nd => ?_⟩
    rw [nis_length]
    exact flt_now (kE _ hsp) s03 d nd
  refine if_false_of (decide_eq_false (by omega)) ?_
  have ga : ls[i]? = some ls[i] := List.getElem?_eq_getElem (by omega)
  have gb : ls[i + 1]? = some ls[i + 1] := List.getElem?_eq_getElem (by omega)
  have gc : ls[i + 2]? = some ls[i + 2] := List.getElem?_eq_getElem (by omega)
  rw [items_step ga gb gc] at hsp
  -- how many
  refine ⟨_, rfl, e, _, rfl, .inl (.of he), rfl, _, rfl, ?_⟩
  rw [List.length_map, lits]
  obtain ⟨bs1, a1, dx1, q1, hbs1, _, hi1, ea1, eq1⟩ := rows_get hL2 ga
  by_cases c4 : its.length = 60
  · refine if_true_of (decide_eq_true (by rw [c4]; rfl)) ?_
    rw [if_pos (by omega)] at hsp
    exact ⟨_, rfl, _, rfl, L, _, _, _, rfl, rfl, .of hbs1, atI_nat hi1, a1, A.Row, dx1, _, _, rfl, ea1, R.cl, R.n1, lk1, fun d nd => flt_now (kE _ hsp) s03 d nd⟩
  refine if_false_of (decide_eq_false fun z => c4 (by have := V.int.inj z; omega)) ?_
  rw [if_neg (by omega)] at hsp
  obtain ⟨bs2, a2, dx2, q2, hbs2, _, hi2, ea2, eq2⟩ := rows_get hL2 gb
  obtain ⟨bs3, a3, dx3, q3, hbs3, _, hi3, ea3, eq3⟩ := rows_get hL2 gc
  -- words
  refine ⟨_, rfl, _, rfl, L, _, _, _, rfl, rfl, .of hbs1, atI_nat hi1, _, rfl, _, rfl, _, _, rfl, rfl, L, _, _, _, rfl, rfl, .of hbs2, atI_nat (j := i + 1) hi2, _, rfl, _, rfl, _, _, rfl, rfl, L, _, _, _, rfl, rfl, .of hbs3, atI_nat (j := i + 2) hi3, ?_⟩
  refine ⟨a1, a2, a3, _, _, _, rfl, ⟨dx1, q1, ea1, eq1⟩, ⟨dx2, q2, ea2, eq2⟩, ⟨dx3, q3, ea3, eq3⟩, lsub ga, lsub gb, lsub gc, fun fl hfl => ?_, fun ws hws H3 p3 s4 np3 hW => ?_⟩
  · rw [hfl] at hsp
    exact (kE fl hsp).same s03
  rw [hws] at hsp
  simp only [Except.bind] at hsp
  have s1_3 := s3.trans (Off.mono (p := e) s4)
  have he3 := s4 _ _ he
  have hL3 : Rows A.Row (Hd (SNew H e) H3) L ls := (hL.same (New.past ne s1_3)).same SNew.to
  -- the free line
  refine ⟨_, rfl, _, rfl, _, _, rfl, rfl, SNew H e, L, ls, i + 3, rfl, ?_, hL3, fun H4 qf s5 hqf => ?_⟩
  · rintro y (hy | rfl)
    · exact fun z => hy ((s03.trans s4).free z)
    · rw [he3]
      exact fun z => by cases z
  have he4 := s5 _ _ he3
  have hqf' := SNew.back _ _ hqf
  refine ⟨_, rfl, .inl ⟨rfl, _, .of he4⟩, _, rfl, _, rfl, fun x dx nx nd nxd => ?_⟩
  have s6 := Same.recH (C := A.Item) (fs := [("words", V.ref p3), ("free", V.ref qf)]) nx nd
  have s26 := (s4.trans s5).trans s6
  have he6 := s26 _ _ he
  have nxe : x ≠ e := fun z => by rw [z, he4] at nx; cases nx
  have fx : H x = none := ((s03.trans s4).trans s5).free nx
  refine ⟨e, _, _, rfl, rfl, he6, ?_, ?_⟩
  · rw [List.length_map, sizeLine_eq]
    omega
  have sN : Same (Off (New H H2) e) (Off (New H (upd (recH H4 A.Item x dx [("words", V.ref p3), ("free", V.ref qf)]) e (.lst (as.map V.ref ++ [V.ref x])))) e) := by
    rw [New.off]
    exact Off.mono (New.mono s26)
  have hItem : ItemAt A (Off (New H (upd (recH H4 A.Item x dx [("words", V.ref p3), ("free", V.ref qf)]) e (.lst (as.map V.ref ++ [V.ref x])))) e) x ⟨ws, freeO (freeL ls (i + 3))⟩ := by
    rw [New.off]
    refine ⟨dx, p3, qf, ?_, hW.same ?_, ?_⟩
    · rw [Off.ne nxe, New.at fx]
      exact recH_at
    · intro b o z
      obtain ⟨g1, g2⟩ := New.inv z
      have hb : b ≠ e := fun y => by rw [y, he] at g1; cases g1
      rw [Off.ne hb, New.at (s03.free g1)]
      exact (s5.trans s6) _ _ g2
    · rw [freeB_freeO]
      exact Off.mono (New.mono s6) _ _ hqf'
  have s1_6 : Same H1 (Off (upd (recH H4 A.Item x dx [("words", V.ref p3), ("free", V.ref qf)]) e (.lst (as.map V.ref ++ [V.ref x]))) e) := by
    rw [Off.upd]
    exact s3.trans (Off.mono s26)
  have hqf6 : upd (recH H4 A.Item x dx [("words", V.ref p3), ("free", V.ref qf)]) e (.lst (as.map V.ref ++ [V.ref x])) qf = some (.lst (nis (freeL ls (i + 3)))) := by
    have z := (Off.same.trans New.sub) _ _ hqf'
    have hne : qf ≠ e := fun y => by rw [y, Off.at] at hqf'; cases hqf'
    rw [upd_ne hne]
    exact s6 _ _ z
  have he7 : upd (recH H4 A.Item x dx [("words", V.ref p3), ("free", V.ref qf)]) e (.lst (as.map V.ref ++ [V.ref x])) e = some (.lst ((as ++ [x]).map V.ref)) := by
    rw [upd_same, List.map_append]
    rfl
  have pr7 := paired_snoc (Paired.mapP pr fun _ _ z => z.same sN) hItem
  generalize upd (recH H4 A.Item x dx [("words", V.ref p3), ("free", V.ref qf)]) e (.lst (as.map V.ref ++ [V.ref x])) = H7 at *
  have hL7 : Rows A.Row H7 L ls := (hL.same New.sub).same (s1_6.trans Off.same)
  have s07 : Same H H7 := s1.trans (s1_6.trans Off.same)
  -- where it goes on
  have hbe : behind ls i ≤ ls.length := behind_le (by omega)
  have hbg : i + 3 ≤ behind ls i := by unfold behind; split <;> omega
  have goOn : ∀ (v4 v5 : Option V), (tSeq (tDrop fun σ H Q => (tCons (tVar 1) (tCons (tVar 3) tNil)) σ H fun vs H1 => spCheck A vs H1 Q E) (tAug 3 (tC (.int 1)) L2.rAdd))
      { nx := fun σ' H' => ∃ m', m' < ls.length + 2 - i ∧ ∃ (i : Nat) (as : List Addr) (its : List Sx05.Item) (v4 v5 : Option V), m' = ls.length + 2 - i ∧ σ' = [some (.ref q), some (.ref L), some (.ref e), some (ni i), v4, v5] ∧ Same H1 (Off H' e) ∧
        H' e = some (.lst (as.map V.ref)) ∧ Paired (ItemAt A (Off (New H H') e)) as its ∧ its.length ≤ 60 ∧
        ((i < ls.length ∧ its.length ≤ i ∧ Sx05.itemsFrom t.length (ls.length + 1) 0 ls = (Sx05.itemsFrom t.length (ls.length - its.length + 1) its.length (ls.drop i)).map fun l => its ++ l) ∨
          (i = ls.length + 1 ∧ Sx05.itemsFrom t.length (ls.length + 1) 0 ls = .ok its)), rt := Q } [some (.ref q), some (.ref L), some (.ref e), some (ni (behind ls i)), v4, v5] H7 := by
    intro v4 v5
    refine ⟨_, rfl, _, rfl, L, ls, behind ls i, rfl, hbe, hL7, fun y hy hbad => ?_, fun hok => ?_⟩
    · rw [hy] at hsp
      dsimp only at hsp
      rw [if_pos hbad] at hsp
      exact (kE _ hsp).same s07
    · refine ⟨_, rfl, _, _, rfl, rfl, ls.length + 2 - (behind ls i + 1), by omega, behind ls i + 1, as ++ [x], its ++ [⟨ws, freeO (freeL ls (i + 3))⟩], v4, v5, rfl, rfl, s1_6, he7, pr7, ?_, ?_⟩
      · rw [List.length_append, List.length_singleton]
        omega
      · cases hy : ls[behind ls i]? with
        | none =>
          have := List.getElem?_eq_none_iff.mp hy
          rw [hy] at hsp
          exact .inr ⟨by omega, hsp⟩
        | some y =>
          have hb := hok y hy
          have hlt := (List.getElem?_eq_some_iff.mp hy).1
          rw [hy] at hsp
          dsimp only at hsp
          rw [if_neg hb] at hsp
          refine .inl ⟨by have := not_or.mp hb; omega, by rw [List.length_append, List.length_singleton]; omega, ?_⟩
          rw [hsp, List.length_append, List.length_singleton]
          have ef : ls.length - (its.length + 1) + 1 = ls.length - its.length := by omega
          rw [ef]
          cases Sx05.itemsFrom t.length (ls.length - its.length) (its.length + 1) (List.drop (behind ls i + 1) ls) with
          | error er => rfl
          | ok l =>
            show Except.ok (its ++ (_ :: l)) = Except.ok ((its ++ [_]) ++ l)
            rw [List.append_assoc]
            rfl
  refine ⟨_, rfl, _, rfl, qf, _, rfl, .inl (.of hqf6), rfl, _, rfl, ?_⟩
  rw [nis_length]
  by_cases c5 : (freeL ls (i + 3)).length = 0
  · refine if_true_of (decide_eq_true (by rw [c5]; rfl)) ?_
    refine ⟨_, _, rfl, rfl, ?_⟩
    have eb : behind ls i = i + 3 := if_pos c5
    have z := goOn (some (.ref p3)) (some (.ref qf))
    rw [eb] at z
    exact z
  · refine if_false_of (decide_eq_false fun z => c5 (by have := V.int.inj z; omega)) ?_
    refine ⟨_, _, rfl, rfl, ?_⟩
    have eb : behind ls i = i + 4 := if_neg c5
    have z := goOn (some (.ref p3)) (some (.ref qf))
    rw [eb] at z
    exact z
end
end G

end

section
set_option Elab.async false
set_option linter.all false
set_option maxRecDepth 100000
set_option maxHeartbeats 4000000
namespace G
open PySem PySem.Spec PyProof.Rows L2 GR
/-! ### columns -/
def colF : Nat → List (Nat × Bytes) → Bytes
  | _, [] => []
  | m, x :: r => List.replicate m 32 ++ (x.2 ++ colF (x.1 - x.2.length + 1) r)
theorem columns_eq : ∀ l : List (Nat × Bytes), Sx05.columns l = colF 0 l
  | [] => rfl
  | [x] => by simp [Sx05.columns, colF]
  | x :: y :: r => by
    have ih := columns_eq (y :: r)
    show x.2 ++ (List.replicate (x.1 - x.2.length + 1) 32 ++ Sx05.columns (y :: r)) = _
    rw [ih]
    simp [colF]
def spSaidLine : Sp := fun vs H Q _ => ∃ (a b : Addr) (bs : List Bytes) (ws : List Nat), vs = [.ref a, .ref b] ∧ BLs H a bs ∧ H b = some (.lst (nis ws)) ∧ ws.length = bs.length ∧ (∀ (i : Nat) (x : Bytes) (w : Nat), bs[i]? = some x → ws[i]? = some w → x.length ≤ w) ∧
  (colF 0 (ws.zip bs)).length ≤ 1000000 ∧ ∀ H' p, Same H H' → H p = none → H' p = some (.lst (nis (colF 0 (ws.zip bs) ++ [10]))) → Q (.ref p) H'
theorem zip_drop {i w : Nat} {x : Bytes} {ws : List Nat} {bs : List Bytes} (h1 : bs[i]? = some x) (h2 : ws[i]? = some w) : (ws.zip bs).drop i = (w, x) :: (ws.zip bs).drop (i + 1) := by
  have e : (ws.zip bs)[i]? = some (w, x) := by
    rw [List.getElem?_zip_eq_some]
    exact ⟨h2, h1⟩
  obtain ⟨a, b⟩ := List.getElem?_eq_some_iff.mp e
  rw [List.drop_eq_getElem_cons a, b]
theorem nis_app (a b : Bytes) : nis a ++ nis b = nis (a ++ b) := by
  unfold nis
  rw [List.map_append]
theorem nis_rep (n : Nat) : (List.replicate n [V.int 32]).flatten = nis (List.replicate n 32) := by
  induction n with
  | zero => rfl
  | succ n ih =>
    rw [List.replicate_succ, List.flatten_cons, ih]
    rfl
section
variable {P : Program} {w : World} {K : PySem.W.Frag} {mg : Str → Option Value} {base : Heap} {A : Adr}
theorem sc_said_line : FnScope ["rows", "widths", "signs", "missing", "row", "width"] ["rows", "widths"] (defScope s_said_line) := ⟨rfl, rfl, rfl, by decide +kernel, rfl, by decide +kernel, by decide +kernel⟩
theorem ok_said_line {f : Addr} {fd : FuncData} (F : Fun K "said_line" "said_line" s_said_line f fd) (mLen : mg "len" = none) (mZ : mg "zip" = none) {t10 t32 : Tok} (m10 : mg "LINE_END" = some (.int 10 t10)) (m32 : mg "BLANK" = some (.int 32 t32)) :
    FnOk P w K mg base CX0 1 f fd ["rows", "widths"] spSaidLine := by
  refine F.ok sc_said_line (fun vs H Q E h => ?_) (fun cdv Ar outer s H vs Q E hr h => ?_)
  · obtain ⟨a, b, bs, ws, rfl, _⟩ := h
    rfl
  refine ⟨_, pss_cons (ps_set (i := 2) sc_said_line.nd rfl (.inl rfl) (pe_lst pa_nil))
    (pss_cons (ps_set (i := 3) sc_said_line.nd rfl (.inl rfl) pe_int)
    (pss_cons (ps_for PassesOwn.never rfl (pi_zip (by rfl) mZ (pa_cons (pv 0) (pa_cons (pv 1) pa_nil)))
        (pg_tup rfl (pgs_cons (pg_name (i := 4) sc_said_line.nd rfl (.inl rfl)) (pgs_cons (pg_name (i := 5) sc_said_line.nd rfl (.inl rfl)) pgs_nil)))
      (pss_cons (ps_expr (pe_bm PySem.F.plainAttrs_list PySem.F.slot_list_extend PySem.F.type_list_extend mt_extend (pv 2) (pa_cons (pe_op op_rep (pe_lst (pa_cons (pe_glob (v := .int 32) rfl m32 ⟨_, rfl⟩) pa_nil)) (pv 3)) pa_nil)))
      (pss_cons (ps_expr (pe_bm PySem.F.plainAttrs_list PySem.F.slot_list_extend PySem.F.type_list_extend mt_extend (pv 2) (pa_cons (pv 4) pa_nil)))
      (pss_one (ps_set (i := 3) sc_said_line.nd rfl (.inl rfl) (pe_op op_add (pe_op op_sub (pv 5) (pe_callB call_len_seq (by rfl) mLen PySem.boot_len (by exact (pa_cons (pv 4) pa_nil)))) pe_int))))))
    (pss_cons (ps_expr (pe_bm PySem.F.plainAttrs_list PySem.F.slot_list_append PySem.F.type_list_append mt_append (pv 2) (pa_cons (pe_glob (v := .int 10) rfl m10 ⟨_, rfl⟩) pa_nil)))
    (pss_one (ps_ret (pv 2)))))), ?_⟩
  obtain ⟨a, b, bs, ws, rfl, ⟨qs, hqs, pq⟩, hb, hlen, hle, hsz, k⟩ := h
  have lq := Paired.length pq
  refine ⟨Nat.zero_le _, fun p np => ?_⟩
  have sP : Same H (upd H p (.lst [])) := Same.new np
  refine ⟨_, rfl, _, rfl, a, b, _, _, rfl, .of (sP _ _ hqs), .of (sP _ _ hb), ?_⟩
  refine for_it (walk_zip (K := K) (a := a) (b := b) (xs := qs.map V.ref) (ys := nis ws) (n := bs.length) (by rw [List.length_map, nis_length, hlen, lq, Nat.min_self]))
    (fun i σ H' => ∃ (sg : Bytes) (mi : Nat) (v4 v5 : Option V), σ = [some (.ref a), some (.ref b), some (.ref p), some (ni mi), v4, v5] ∧ Same H (Off H' p) ∧ H' p = some (.lst (nis sg)) ∧
      colF 0 (ws.zip bs) = sg ++ colF mi ((ws.zip bs).drop i)) ?_ ?_ ?_ ?_
  · exact ⟨[], 0, none, none, rfl, Off.old sP np, upd_same, rfl⟩
  · rintro i σ H' hi ⟨sg, mi, v4, v5, _, s1, _⟩
    exact ⟨.of (Off.same _ _ (s1 _ _ hqs)), .of (Off.same _ _ (s1 _ _ hb))⟩
  · rintro i x σ H1 H2 hi ⟨sg, mi, v4, v5, rfl, s1, hp, hc⟩ ⟨T, x, y, rfl, nT, rfl, e1, e2⟩
    obtain ⟨wd, hw, rfl⟩ := nis_get e2
    have e1 : (qs.map V.ref)[i]? = some x := e1
    rw [List.getElem?_map] at e1
    obtain ⟨q, hq1, rfl⟩ := Option.map_eq_some_iff.mp e1
    obtain ⟨bt, hb1, hb2⟩ := paired_get pq hq1
    have hb2 := s1 _ _ hb2
    have hle' := hle i bt wd hb1 hw
    rw [zip_drop hb1 hw] at hc
    have sT : Same H1 (upd H1 T (.tup [.ref q, ni wd])) := Same.new nT
    refine ⟨T, _, rfl, .of upd_same, rfl, _, _, rfl, _, _, rfl, rfl, ?_⟩
    have hq2 : upd H1 T (.tup [.ref q, ni wd]) q = some (.lst (nis bt)) := sT _ _ (Off.same _ _ hb2)
    have nqp : q ≠ p := fun z => by rw [z, Off.at] at hb2; cases hb2
    have s2 := s1.trans (Off.mono (p := p) sT)
    have hp2 := sT _ _ hp
    generalize upd H1 T (.tup [.ref q, ni wd]) = H2 at *
    have hsum : sg.length + (mi + (bt.length + (colF (wd - bt.length + 1) ((ws.zip bs).drop (i + 1))).length)) ≤ 1000000 := by
      have z := congrArg List.length hc
      simp only [colF, List.length_append, List.length_replicate] at z
      omega
    refine ⟨_, rfl, .inl ⟨rfl, _, .of hp2⟩, by show 1 ≤ sizeLine; decide, fun n nn => ?_⟩
    have s3 : Same H2 (upd H2 n (.lst [.int 32])) := Same.new nn
    refine ⟨_, rfl, n, _, _, rfl, rfl, upd_same, by omega, by omega, ?_, fun n2 nn2 => ?_⟩
    · show 1 * (mi : Int).toNat ≤ sizeLine
      rw [Int.toNat_natCast, sizeLine_eq]
      omega
    rw [Int.toNat_natCast, nis_rep] at *
    have s4 : Same (upd H2 n (.lst [.int 32])) (upd (upd H2 n (.lst [.int 32])) n2 (.lst (nis (List.replicate mi 32)))) := Same.new nn2
    have s24 := s3.trans s4
    refine ⟨p, n2, _, _, rfl, rfl, s24 _ _ hp2, upd_same, ?_, ?_⟩
    · rw [nis_length, nis_length, List.length_replicate, sizeLine_eq]
      omega
    rw [nis_app]
    have hq5 : upd (upd (upd H2 n (.lst [.int 32])) n2 (.lst (nis (List.replicate mi 32)))) p (.lst (nis (sg ++ List.replicate mi 32))) q = some (.lst (nis bt)) := by
      rw [upd_ne nqp]
      exact s24 _ _ hq2
    have s5 : Same H (Off (upd (upd (upd H2 n (.lst [.int 32])) n2 (.lst (nis (List.replicate mi 32)))) p (.lst (nis (sg ++ List.replicate mi 32)))) p) := by
      rw [Off.upd]
      exact s2.trans (Off.mono s24)
    have hp5 : upd (upd (upd H2 n (.lst [.int 32])) n2 (.lst (nis (List.replicate mi 32)))) p (.lst (nis (sg ++ List.replicate mi 32))) p = some (.lst (nis (sg ++ List.replicate mi 32))) := upd_same
    generalize upd (upd (upd H2 n (.lst [.int 32])) n2 (.lst (nis (List.replicate mi 32)))) p (.lst (nis (sg ++ List.replicate mi 32))) = H5 at *
    refine ⟨_, rfl, .inl ⟨rfl, _, .of hp5⟩, _, rfl, p, q, _, _, rfl, rfl, hp5, hq5, ?_, ?_⟩
    · rw [nis_length, nis_length, List.length_append, List.length_replicate, sizeLine_eq]
      omega
    rw [nis_app]
    have hq6 : upd H5 p (.lst (nis (sg ++ List.replicate mi 32 ++ bt))) q = some (.lst (nis bt)) := by
      rw [upd_ne nqp]
      exact hq5
    refine ⟨_, rfl, _, rfl, q, _, rfl, .inl (.of hq6), _, _, rfl, rfl, _, _, rfl, rfl, ?_⟩
    refine ⟨sg ++ List.replicate mi 32 ++ bt, wd - bt.length + 1, some (.ref q), some (ni wd), ?_, ?_, upd_same, ?_⟩
    · have e : (V.int ((wd : Int) - ((nis bt).length : Int) + 1)) = ni (wd - bt.length + 1) := by
        rw [nis_length]
        show V.int _ = V.int _
        congr 1
        omega
      rw [← e]
      rfl
    · rw [Off.upd]
      exact s5
    · rw [hc]
      simp [colF, List.append_assoc]
  · rintro σ H1 ⟨sg, mi, v4, v5, rfl, s1, hp, hc⟩
    have hc2 : colF 0 (ws.zip bs) = sg := by
      rw [hc, List.drop_eq_nil_of_le (by rw [List.length_zip]; omega)]
      simp [colF]
    refine ⟨_, rfl, .inl ⟨rfl, _, .of hp⟩, p, _, _, rfl, rfl, hp, ?_, ?_⟩
    · rw [nis_length, ← hc2, sizeLine_eq]
      omega
    refine ⟨_, rfl, k _ p ?_ np ?_⟩
    · have z : Same H (Off (upd H1 p (.lst (nis sg ++ [V.int 10]))) p) := by
        rw [Off.upd]
        exact s1
      exact z.trans Off.same
    · rw [upd_same, hc2]
      unfold nis
      rw [List.map_append]
      rfl
end
end G

end

section
set_option Elab.async false
set_option linter.all false
set_option maxRecDepth 100000
set_option maxHeartbeats 4000000
namespace G
open PySem PySem.Spec PyProof.Rows L2 GR
def asgVal : Stmt → Expr
  | .Assign _ v _ => v
  | _ => .Constant .none 0 ⟨0, 0, 0, 0⟩
def compScope : Expr → Scope
  | .ListComp _ _ sc _ => sc
  | _ => { kind := .function, names := [], isGenerator := false, isCoroutine := false }
abbrev widScope : Scope := compScope (asgVal ((defBody s_said_item).getD 0 (.Pass ⟨0, 0, 0, 0⟩)))
def rowL (i : Nat) (x : Sx05.Word) : Bytes := match i with
  | 0 => x.text
  | 1 => Sx05.token Sx05.Piece.form x.pieces
  | _ => Sx05.token Sx05.Piece.gloss x.pieces
def rowT (ws : List Sx05.Word) (i : Nat) : Bytes := colF 0 (ws.map fun x => (Sx05.width x, rowL i x)) ++ [10]
def preT (ws : List Sx05.Word) : Nat → Bytes
  | 0 => []
  | i + 1 => preT ws i ++ rowT ws i
theorem itemText_eq (x : Sx05.Item) : Sx05.itemText x = preT x.words 3 ++ (match x.free with | some t => 39 :: (t ++ [10]) | none => []) := by
  unfold Sx05.itemText
  simp only [columns_eq]
  show _ = (([] ++ rowT x.words 0) ++ rowT x.words 1) ++ rowT x.words 2 ++ _
  simp only [rowT, rowL, List.nil_append, List.append_assoc]
  rfl
def spSaidItem (A : Adr) : Sp := fun vs H Q _ => ∃ (a : Addr) (x : Sx05.Item), vs = [.ref a] ∧ ItemAt A H a x ∧ (Sx05.itemText x).length ≤ 1000000 ∧ x.words.length ≤ 1000000 ∧
  ∀ H' p, Same H H' → H p = none → H' p = some (.lst (nis (Sx05.itemText x))) → Q (.ref p) H'
section
variable {P : Program} {w : World} {K : PySem.W.Frag} {mg : Str → Option Value} {base : Heap} {A : Adr} {f1 : Addr}
abbrev nSI : List Str := ["item", "widths", "signs", "level", "rows", "word", "row"]
theorem sc_said_item : FnScope nSI ["item"] (defScope s_said_item) := ⟨rfl, rfl, rfl, by decide +kernel, rfl, by decide +kernel, by decide +kernel⟩
theorem ok_said_item {f : Addr} {fd : FuncData} (F : Fun K "said_item" "said_item" s_said_item f fd) (RW : Rec2 P w K mg base "Word" A.Word "rows" "pieces") (RI : Rec2 P w K mg base "Item" A.Item "words" "free")
    (D1 : Def P w K mg base CX0 1 "said_line" f1 ["rows", "widths"] spSaidLine) (mLen : mg "len" = none) (mMax : mg "max" = none) (mR : mg "range" = none) {t10 : Tok} (m10 : mg "LINE_END" = some (.int 10 t10)) :
    FnOk P w K mg base CX0 2 f fd ["item"] (spSaidItem A) := by
  refine F.ok sc_said_item (fun vs H Q E h => ?_) (fun cdv Ar outer s H vs Q E hr h => ?_)
  · obtain ⟨a, x, rfl, _⟩ := h
    rfl
  refine ⟨_, pss_cons (ps_setLc (i := 1) (own := [("word", 5)]) (g := gName 5) (tt := tYes)
      (te := tCB (rMax K) (tCons (tLc (iTup K (tFld K (tVar 5) "rows")) (gName 6) tYes (tCB (rLen K) (tCons (tVar 6) tNil)) [6]) tNil)) rfl sc_said_item.nd rfl rfl (sw_true rfl rfl rfl (by decide +kernel))
      (pi_list (pe_fld (pv 0) rfl)) (blkOk_by (N := nSI) (sc := defScope s_said_item) (by decide +kernel))
      (fun _ _ _ _ _ => pg_name (i := 5) sc_said_item.nd rfl (Or.inl rfl)) (fun _ _ _ _ _ => pts_nil)
      (fun _ _ _ _ _ => by exact (pe_callB (cr_max rfl) (by rfl) mMax (by decide +kernel) (by exact (pa_cons (pe_lc (own := [("row", 6)]) (g := gName 6) (tt := tYes) (te := tCB (rLen K) (tCons (tVar 6) tNil)) rfl sc_said_item.nd
        (pi_tup (pe_fld (pv 5) rfl)) (blkOk_by (N := nSI) (sc := relS widScope (defScope s_said_item)) (by decide +kernel))
        (fun _ _ _ _ _ => pg_name (i := 6) sc_said_item.nd rfl (Or.inl rfl)) (fun _ _ _ _ _ => pts_nil)
        (fun _ _ _ _ _ => by exact (pe_callB call_len_seq (by rfl) mLen PySem.boot_len (by exact (pa_cons (pv 6) pa_nil))))) pa_nil)))))
    (pss_cons (ps_set (i := 2) sc_said_item.nd rfl (.inl rfl) (pe_lst pa_nil))
    (pss_cons (ps_for PassesOwn.never rfl (pi_range1 rfl mR (pa_cons pe_int pa_nil)) (pg_name (i := 3) sc_said_item.nd rfl (Or.inr rfl))
      (pss_cons (ps_setLc (i := 4) (own := [("word", 5)]) (g := gName 5) (tt := tYes) (te := tOp (rIxT K) (tFld K (tVar 5) "rows") (tVar 3)) rfl sc_said_item.nd rfl rfl (sw_true rfl rfl rfl (by decide +kernel))
        (pi_list (pe_fld (pv 0) rfl)) (blkOk_by (N := nSI) (sc := defScope s_said_item) (by decide +kernel))
        (fun _ _ _ _ _ => pg_name (i := 5) sc_said_item.nd rfl (Or.inl rfl)) (fun _ _ _ _ _ => pts_nil)
        (fun _ _ _ _ _ => by exact (pe_ix ix_tup (pe_fld (pv 5) rfl) (pv 3) (fun _ _ => rfl))))
      (pss_one (ps_expr (pe_bm PySem.F.plainAttrs_list PySem.F.slot_list_extend PySem.F.type_list_extend mt_extend (pv 2) (pa_cons (pe_def D1 hr pass0 (pa_cons (pv 4) (pa_cons (pv 1) pa_nil))) pa_nil))))))
    (pss_cons (ps_if (pt_cmpR op_gt (pe_callB call_len_seq (by rfl) mLen PySem.boot_len (by exact (pa_cons (pe_fld (pv 0) rfl) pa_nil))) pe_int (nomark _))
      (pss_cons (ps_expr (pe_bm PySem.F.plainAttrs_list PySem.F.slot_list_extend PySem.F.type_list_extend mt_extend (pv 2) (pa_cons (pe_fld (pv 0) rfl) pa_nil)))
      (pss_one (ps_expr (pe_bm PySem.F.plainAttrs_list PySem.F.slot_list_append PySem.F.type_list_append mt_append (pv 2) (pa_cons (pe_glob (v := .int 10) rfl m10 ⟨_, rfl⟩) pa_nil))))) pss_nil)
    (pss_one (ps_ret (pv 2)))))), ?_⟩
  obtain ⟨a, x, rfl, ⟨dx, p, q, ha, ⟨as, hp, pw⟩, hq⟩, hsz, hwl, k⟩ := h
  have law := Paired.length pw
  -- widths
  refine ⟨_, rfl, a, A.Item, dx, _, _, rfl, ha, RI.cl, RI.n1, lk1, p, rfl, ⟨_, .of hp⟩, fun D nD => ?_⟩
  have sD : Same H (upd H D (.lst [])) := Same.new nD
  refine lc_it (walk_list (K := K) (a := p) (xs := as.map V.ref)) (fun i H' => Same H (Off H' D) ∧ H' D = some (.lst (nis ((x.words.take i).map Sx05.width)))) ?_ ?_ ?_ ?_
  · exact ⟨Off.old sD nD, upd_same⟩
  · rintro i H' hi ⟨s5, _⟩
    exact .of (Off.same _ _ (s5 _ _ hp))
  · rintro i v H1 H2 hi ⟨s5, hD⟩ ⟨rfl, hv⟩
    rw [List.length_map] at hi
    rw [List.getElem?_map] at hv
    obtain ⟨b, hb1, rfl⟩ := Option.map_eq_some_iff.mp hv
    obtain ⟨wd, hw1, dw, tw, pp, q1, q2, q3, e1, e2, e3, e4, e5, e6⟩ := paired_get pw hb1
    have old : ∀ {c o}, H c = some o → H2 c = some o := fun z => Off.same _ _ (s5 _ _ z)
    refine ⟨rfl, yes_of ?_⟩
    refine ⟨_, rfl, b, A.Word, dw, _, _, rfl, old e1, RW.cl, RW.n1, lk1, tw, rfl, ⟨_, .of (old e2)⟩, fun D2 nD2 => ?_⟩
    have sD2 : Same H2 (upd H2 D2 (.lst [])) := Same.new nD2
    refine lc_it (walk_tup (K := K) (a := tw) (xs := [.ref q1, .ref q2, .ref q3])) (fun j H' => Same H2 (Off H' D2) ∧ H' D2 = some (.lst ((([rowL 0 wd, rowL 1 wd, rowL 2 wd].take j).map fun l => (l.length : Int)).map V.int))) ?_ ?_ ?_ ?_
    · exact ⟨Off.old sD2 nD2, upd_same⟩
    · rintro j H' hj ⟨s6, _⟩
      exact .of (Off.same _ _ (s6 _ _ (old e2)))
    · rintro j v H3 H4 hj ⟨s6, hD2⟩ ⟨rfl, hv⟩
      have key : ∃ qq l, v = .ref qq ∧ H qq = some (.lst (nis l)) ∧ [rowL 0 wd, rowL 1 wd, rowL 2 wd][j]? = some l := by
        match j, hj, hv with
        | 0, _, hv => exact ⟨q1, _, (Option.some.inj hv).symm, e3, rfl⟩
        | 1, _, hv => exact ⟨q2, _, (Option.some.inj hv).symm, e4, rfl⟩
        | 2, _, hv => exact ⟨q3, _, (Option.some.inj hv).symm, e5, rfl⟩
      obtain ⟨qq, l, rfl, hl1, hl2⟩ := key
      refine ⟨rfl, yes_of ?_⟩
      refine ⟨_, rfl, qq, _, rfl, .inl (.of (Off.same _ _ (s6 _ _ (old hl1)))), _, hD2, ?_, ?_, ?_⟩
      · rw [List.length_map, List.length_map, List.length_take, sizeLine_eq]
        simp only [List.length_cons, List.length_nil]
        omega
      · rw [Off.upd]
        exact s6
      · rw [upd_same, List.take_add_one, hl2, List.map_append, List.map_append, nis_length]
        rfl
    · rintro H4 ⟨s6, hD2⟩
      have s24 : Same H2 H4 := s6.trans Off.same
      refine ⟨D2, _, rfl, .of hD2, by show 0 < 3; decide, fun m hm hle => ?_⟩
      have em : m = (Sx05.width wd : Int) := by
        have h0 := hle ((rowL 0 wd).length : Int) (by simp)
        have h1 := hle ((rowL 1 wd).length : Int) (by simp)
        have h2 := hle ((rowL 2 wd).length : Int) (by simp)
        have hm : m ∈ [((rowL 0 wd).length : Int), ((rowL 1 wd).length : Int), ((rowL 2 wd).length : Int)] := by simpa using hm
        unfold Sx05.width
        show m = ((max (rowL 0 wd).length (max (rowL 1 wd).length (rowL 2 wd).length) : Nat) : Int)
        simp only [List.mem_cons, List.not_mem_nil, or_false] at hm
        omega
      refine ⟨_, s24 _ _ hD, ?_, ?_, ?_⟩
      · rw [nis_length, List.length_map, List.length_take, sizeLine_eq]
        omega
      · rw [Off.upd]
        exact s5.trans (Off.mono s24)
      · rw [upd_same, List.take_add_one, hw1, List.map_append, em]
        unfold nis
        rw [List.map_append]
        rfl
  rintro H1 ⟨s1, hD⟩
  rw [List.length_map, law, List.take_length] at hD
  have s01 : Same H H1 := s1.trans Off.same
  -- lines
  refine ⟨Nat.zero_le _, fun sg nsg => ?_⟩
  have s2 : Same H1 (upd H1 sg (.lst [])) := Same.new nsg
  have pl : ∀ i, i ≤ 3 → (preT x.words i).length ≤ 1000000 := fun i hi => by
    have z : (preT x.words i).length ≤ (preT x.words 3).length := by
      have m0 : (preT x.words 0).length ≤ (preT x.words 1).length := Nat.zero_le _
      have m1 : (preT x.words 1).length ≤ (preT x.words 2).length := by rw [show preT x.words 2 = preT x.words 1 ++ rowT x.words 1 from rfl, List.length_append]; omega
      have m2 : (preT x.words 2).length ≤ (preT x.words 3).length := by rw [show preT x.words 3 = preT x.words 2 ++ rowT x.words 2 from rfl, List.length_append]; omega
      match i, hi with
      | 0, _ => omega
      | 1, _ => omega
      | 2, _ => omega
      | 3, _ => omega
    rw [itemText_eq, List.length_append] at hsz
    omega
  refine ⟨3, rfl, by decide, by decide, ?_⟩
  refine for_it (walk_range (lo := 0) (n := 3)) (fun i σ H' => ∃ (v3 v4 : Option V), σ = [some (.ref a), some (.ref D), some (.ref sg), v3, v4, none, none] ∧ Same H1 (Off H' sg) ∧ H' sg = some (.lst (nis (preT x.words i)))) ?_ ?_ ?_ ?_
  · exact ⟨none, none, rfl, Off.old s2 nsg, upd_same⟩
  · intros
    trivial
  · rintro i v σ H2 H3 hi ⟨v3, v4, rfl, s3, hsg⟩ ⟨rfl, rfl⟩
    have old : ∀ {c o}, H c = some o → H3 c = some o := fun z => Off.same _ _ (s3 _ _ (s01 _ _ z))
    refine ⟨_, rfl, a, A.Item, dx, _, _, rfl, old ha, RI.cl, RI.n1, lk1, p, rfl, ⟨_, .of (old hp)⟩, fun D2 nD2 => ?_⟩
    have sD2 : Same H3 (upd H3 D2 (.lst [])) := Same.new nD2
    refine lc_it (walk_list (K := K) (a := p) (xs := as.map V.ref)) (fun j H' => ∃ qs : List Addr, Same H3 (Off H' D2) ∧ H' D2 = some (.lst (qs.map V.ref)) ∧ qs.length ≤ j ∧ Paired (fun q l => H q = some (.lst (nis l))) qs ((x.words.take j).map (rowL i))) ?_ ?_ ?_ ?_
    · exact ⟨[], Off.old sD2 nD2, upd_same, Nat.le_refl _, .nil⟩
    · rintro j H' hj ⟨qs, s6, _⟩
      exact .of (Off.same _ _ (s6 _ _ (old hp)))
    · rintro j v H4 H5 hj ⟨qs, s6, hD2, hl, pq⟩ ⟨rfl, hv⟩
      rw [List.length_map] at hj
      rw [List.getElem?_map] at hv
      obtain ⟨b, hb1, rfl⟩ := Option.map_eq_some_iff.mp hv
      obtain ⟨wd, hw1, dw, tw, pp, q1, q2, q3, e1, e2, e3, e4, e5, e6⟩ := paired_get pw hb1
      have old2 : ∀ {c o}, H c = some o → H5 c = some o := fun z => Off.same _ _ (s6 _ _ (old z))
      have key : ∃ qq, [V.ref q1, V.ref q2, V.ref q3][i]? = some (.ref qq) ∧ H qq = some (.lst (nis (rowL i wd))) := by
        match i, hi with
        | 0, _ => exact ⟨q1, rfl, e3⟩
        | 1, _ => exact ⟨q2, rfl, e4⟩
        | 2, _ => exact ⟨q3, rfl, e5⟩
      obtain ⟨qq, hqq1, hqq2⟩ := key
      refine ⟨rfl, yes_of ?_⟩
      refine ⟨_, rfl, b, A.Word, dw, _, _, rfl, old2 e1, RW.cl, RW.n1, lk1, _, rfl, tw, _, _, _, rfl, rfl, .of (old2 e2), at_of (Int.zero_add _) hqq1, _, hD2, ?_, qs ++ [qq], ?_, ?_, ?_, ?_⟩
      · rw [List.length_map, sizeLine_eq]
        omega
      · rw [Off.upd]
        exact s6
      · rw [upd_same, List.map_append]
        rfl
      · rw [List.length_append]
        exact Nat.add_le_add_right hl 1
      · rw [List.take_add_one, hw1, List.map_append]
        exact paired_snoc pq hqq2
    rintro H4 ⟨qs, s6, hD2, hl, pq⟩
    rw [List.length_map, law, List.take_length] at pq
    have s34 : Same H3 H4 := s6.trans Off.same
    have old4 : ∀ {c o}, H c = some o → H4 c = some o := fun z => s34 _ _ (old z)
    have hsg3 : H3 sg = some (.lst (nis (preT x.words i))) := hsg
    have zip : (x.words.map Sx05.width).zip (x.words.map (rowL i)) = x.words.map fun y => (Sx05.width y, rowL i y) := List.zip_map' ..
    have hD3 : H3 D = some (.lst (nis (x.words.map Sx05.width))) := Off.same _ _ (s3 _ _ hD)
    have hb3 := pl (i + 1) (by omega)
    have hb4 : (preT x.words i).length + (rowT x.words i).length ≤ 1000000 := by
      rw [← List.length_append]
      exact hb3
    refine ⟨_, rfl, .inl ⟨rfl, _, .of (s34 _ _ hsg3)⟩, ?_⟩
    refine ⟨_, rfl, _, rfl, D2, D, x.words.map (rowL i), x.words.map Sx05.width, rfl, ⟨qs, hD2, Paired.mapP pq fun _ _ z => old4 z⟩, s34 _ _ hD3, ?_, ?_, ?_, fun H5 r s7 nr hr5 => ?_⟩
    · rw [List.length_map, List.length_map]
    · intro j y wdt hy hwt
      rw [List.getElem?_map] at hy hwt
      obtain ⟨wd, hwd, rfl⟩ := Option.map_eq_some_iff.mp hy
      rw [hwd] at hwt
      obtain rfl : Sx05.width wd = wdt := Option.some.inj hwt
      unfold Sx05.width
      match i with
      | 0 => exact Nat.le_max_left _ _
      | 1 => exact Nat.le_trans (Nat.le_max_left _ _) (Nat.le_max_right _ _)
      | _ + 2 => exact Nat.le_trans (Nat.le_max_right _ _) (Nat.le_max_right _ _)
    · rw [zip]
      have z : (rowT x.words i).length = (colF 0 (x.words.map fun y => (Sx05.width y, rowL i y))).length + 1 := by
        unfold rowT
        rw [List.length_append]
        rfl
      omega
    rw [zip] at hr5
    have hr5 : H5 r = some (.lst (nis (rowT x.words i))) := hr5
    have hsg5 := s7 _ _ (s34 _ _ hsg3)
    refine ⟨sg, r, _, _, rfl, rfl, hsg5, hr5, ?_, ?_⟩
    · rw [nis_length, nis_length, sizeLine_eq]
      omega
    refine ⟨_, _, rfl, ?_, ?_⟩
    · rw [Off.upd]
      exact s3.trans (Off.mono (s34.trans s7))
    · rw [upd_same, nis_app]
      rfl
  rintro σ H2 ⟨v3, v4, rfl, s3, hsg⟩
  have old : ∀ {c o}, H c = some o → H2 c = some o := fun z => Off.same _ _ (s3 _ _ (s01 _ _ z))
  have nqs : q ≠ sg := fun z => by
    have y := s01 _ _ hq
    rw [z, nsg] at y
    cases y
  have fsg : H sg = none := s01.free nsg
  refine ⟨_, rfl, a, A.Item, dx, _, _, rfl, old ha, RI.cl, RI.n2, lk2 RI.ne, q, _, rfl, .inl (.of (old hq)), _, _, rfl, rfl, _, rfl, ?_⟩
  rw [nis_length]
  have hsz2 := hsz
  rw [itemText_eq] at hsz2 k
  cases hfr : x.free with
  | none =>
    rw [hfr] at k
    refine if_false_of (decide_eq_false (by simp [freeB])) ?_
    refine ⟨_, rfl, k _ sg (s01.trans (s3.trans Off.same)) fsg ?_⟩
    simp only [List.append_nil]
    exact hsg
  | some t =>
    rw [hfr] at k hsz2
    rw [hfr] at hq
    have hq2 : H2 q = some (.lst (nis (39 :: t))) := Off.same _ _ (s3 _ _ (s01 _ _ hq))
    simp only [List.length_append, List.length_cons] at hsz2
    refine if_true_of (decide_eq_true (by simp [freeB])) ?_
    refine ⟨_, rfl, .inl ⟨rfl, _, .of hsg⟩, _, rfl, a, A.Item, dx, _, _, rfl, old ha, RI.cl, RI.n2, lk2 RI.ne, sg, q, _, _, rfl, rfl, hsg, hq2, ?_, ?_⟩
    · rw [nis_length, nis_length, List.length_cons, sizeLine_eq]
      omega
    rw [nis_app]
    refine ⟨_, rfl, .inl ⟨rfl, _, .of upd_same⟩, sg, _, _, rfl, rfl, upd_same, ?_, ?_⟩
    · rw [nis_length, List.length_append, List.length_cons, sizeLine_eq]
      omega
    refine ⟨_, rfl, k _ sg ?_ fsg ?_⟩
    · rw [upd_upd]
      have z : Same H1 (Off (upd H2 sg (.lst (nis (preT x.words 3 ++ 39 :: t) ++ [V.int 10]))) sg) := by
        rw [Off.upd]
        exact s3
      exact s01.trans (z.trans Off.same)
    · rw [upd_same]
      have e : nis (preT x.words 3 ++ 39 :: t) ++ [V.int 10] = nis (preT x.words 3 ++ 39 :: (t ++ [10])) := by
        unfold nis
        simp
      rw [e]
end
end G

end

section
set_option Elab.async false
set_option linter.all false
set_option maxRecDepth 100000
set_option maxHeartbeats 4000000
namespace G
open PySem PySem.Spec PyProof.Rows L2 GR
/-- the sizes of a text that was read -/
def PcOk (p : Sx05.Piece) : Prop := p.form ≠ [] ∧ p.gloss ≠ [] ∧ p.form.length ≤ 7000 ∧ p.gloss.length ≤ 7000
def OkSt (l : List Sx05.Item) : Prop := l.length ≤ 60 ∧ ∀ x ∈ l, x.words.length ≤ 30 ∧ ∀ y ∈ x.words, y.pieces.length ≤ 8 ∧ ∀ p ∈ y.pieces, PcOk p
def saidF : Bytes → List Sx05.Item → Bytes
  | acc, [] => acc
  | acc, x :: r => saidF (acc ++ (if acc.length = 0 then [] else [10]) ++ Sx05.itemText x) r
theorem itemText_pos (x : Sx05.Item) : 0 < (Sx05.itemText x).length := by
  rw [itemText_eq, List.length_append]
  have : 0 < (preT x.words 3).length := by
    rw [show preT x.words 3 = preT x.words 2 ++ rowT x.words 2 from rfl, List.length_append]
    unfold rowT
    rw [List.length_append, List.length_singleton]
    omega
  omega
theorem saidF_more : ∀ (r : List Sx05.Item) (acc : Bytes), 0 < acc.length → saidF acc r = acc ++ r.flatMap fun x => 10 :: Sx05.itemText x
  | [], acc, _ => by simp [saidF]
  | x :: r, acc, h => by
    show saidF (acc ++ (if acc.length = 0 then [] else [10]) ++ Sx05.itemText x) r = _
    rw [if_neg (by omega), saidF_more r _ (by simp only [List.length_append]; omega)]
    simp
theorem inter_eq (a : Bytes) : ∀ r : List Bytes, List.intercalate [10] (a :: r) = a ++ r.flatMap fun x => 10 :: x
  | [] => by simp [List.intercalate]
  | b :: r => by
    have ih := inter_eq b r
    unfold List.intercalate at ih ⊢
    rw [List.intersperse_cons₂]
    simp only [List.flatten_cons, ih]
    simp
theorem said_eq (l : List Sx05.Item) : Sx05.said l = saidF [] l := by
  unfold Sx05.said
  cases l with
  | nil => rfl
  | cons x r =>
    rw [List.map_cons, inter_eq]
    show _ = saidF (([] ++ (if ([] : Bytes).length = 0 then [] else [10])) ++ Sx05.itemText x) r
    rw [saidF_more r _ (by have := itemText_pos x; simpa using this), List.flatMap_map]
    rfl
theorem saidF_len : ∀ (r : List Sx05.Item) (acc : Bytes), acc.length ≤ (saidF acc r).length
  | [], acc => Nat.le_refl _
  | x :: r, acc => by
    have z := saidF_len r (acc ++ (if acc.length = 0 then [] else [10]) ++ Sx05.itemText x)
    simp only [List.length_append] at z
    show acc.length ≤ (saidF (acc ++ (if acc.length = 0 then [] else [10]) ++ Sx05.itemText x) r).length
    omega
def spSaidText (A : Adr) : Sp := fun vs H Q _ => ∃ (p : Addr) (l : List Sx05.Item), vs = [.ref p] ∧ Items A H p l ∧ OkSt l ∧ (Sx05.said l).length ≤ 1000000 ∧
  ∀ H' q, Same H H' → H q = none → H' q = some (.lst (nis (Sx05.said l))) → Q (.ref q) H'
section
variable {P : Program} {w : World} {K : PySem.W.Frag} {mg : Str → Option Value} {base : Heap} {A : Adr} {f1 : Addr}
theorem sc_said_text : FnScope ["entries", "signs", "item"] ["entries"] (defScope s_said_text) := ⟨rfl, rfl, rfl, by decide +kernel, rfl, by decide +kernel, by decide +kernel⟩
theorem ok_said_text {f : Addr} {fd : FuncData} (F : Fun K "said_text" "said_text" s_said_text f fd) (D1 : Def P w K mg base CX0 2 "said_item" f1 ["item"] (spSaidItem A)) (mLen : mg "len" = none) {t10 : Tok} (m10 : mg "LINE_END" = some (.int 10 t10)) :
    FnOk P w K mg base CX0 3 f fd ["entries"] (spSaidText A) := by
  refine F.ok sc_said_text (fun vs H Q E h => ?_) (fun cdv Ar outer s H vs Q E hr h => ?_)
  · obtain ⟨p, l, rfl, _⟩ := h
    rfl
  refine ⟨_, pss_cons (ps_set (i := 1) sc_said_text.nd rfl (.inl rfl) (pe_lst pa_nil))
    (pss_cons (ps_for PassesOwn.never rfl (pi_list (pv 0)) (pg_name (i := 2) sc_said_text.nd rfl (.inl rfl))
      (pss_cons (ps_if (pt_cmpR op_gt (pe_callB call_len_seq (by rfl) mLen PySem.boot_len (by exact (pa_cons (pv 1) pa_nil))) pe_int (nomark _))
        (pss_one (ps_expr (pe_bm PySem.F.plainAttrs_list PySem.F.slot_list_append PySem.F.type_list_append mt_append (pv 1) (pa_cons (pe_glob (v := .int 10) rfl m10 ⟨_, rfl⟩) pa_nil)))) pss_nil)
      (pss_one (ps_expr (pe_bm PySem.F.plainAttrs_list PySem.F.slot_list_extend PySem.F.type_list_extend mt_extend (pv 1) (pa_cons (pe_def D1 hr pass0 (pa_cons (pv 2) pa_nil)) pa_nil))))))
    (pss_one (ps_ret (pv 1)))), ?_⟩
  obtain ⟨p, l, rfl, ⟨as, hp, pr⟩, hok, hsz, k⟩ := h
  have la := Paired.length pr
  rw [said_eq] at hsz k
  refine ⟨Nat.zero_le _, fun sg nsg => ?_⟩
  have s1 : Same H (upd H sg (.lst [])) := Same.new nsg
  refine ⟨_, rfl, p, rfl, ⟨_, .of (s1 _ _ hp)⟩, ?_⟩
  refine for_it (walk_list (K := K) (a := p) (xs := as.map V.ref)) (fun i σ H' => ∃ (b : Bytes) (v2 : Option V), σ = [some (.ref p), some (.ref sg), v2] ∧ Same H (Off H' sg) ∧ H' sg = some (.lst (nis b)) ∧ saidF [] l = saidF b (l.drop i)) ?_ ?_ ?_ ?_
  · exact ⟨[], none, rfl, Off.old s1 nsg, upd_same, rfl⟩
  · rintro i σ H' hi ⟨b, v2, _, s2, _⟩
    exact .of (Off.same _ _ (s2 _ _ hp))
  · rintro i v σ H1 H2 hi ⟨b, v2, rfl, s2, hsg, hsd⟩ ⟨rfl, hv⟩
    rw [List.getElem?_map] at hv
    obtain ⟨a, ha1, rfl⟩ := Option.map_eq_some_iff.mp hv
    obtain ⟨x, hx1, hx2⟩ := paired_get pr ha1
    obtain ⟨g1, g2⟩ := List.getElem?_eq_some_iff.mp hx1
    rw [List.drop_eq_getElem_cons g1, g2] at hsd
    have hsd : saidF [] l = saidF (b ++ (if b.length = 0 then [] else [10]) ++ Sx05.itemText x) (l.drop (i + 1)) := hsd
    have hlen := saidF_len (l.drop (i + 1)) (b ++ (if b.length = 0 then [] else [10]) ++ Sx05.itemText x)
    rw [← hsd] at hlen
    simp only [List.length_append] at hlen
    have hxl := hok.2 x (List.mem_of_getElem? hx1)
    refine ⟨_, rfl, sg, _, rfl, .inl (.of hsg), _, _, rfl, rfl, _, rfl, ?_⟩
    rw [nis_length]
    have go : ∀ (c : Bytes) (H3 : Hp), c = b ++ (if b.length = 0 then [] else [10]) → Same H (Off H3 sg) → H3 sg = some (.lst (nis c)) →
        (tDrop (tBM K "list" rExtend (tVar 1) (tCons (fun σ H Q => (tCons (tVar 2) tNil) σ H fun vs H1 => spSaidItem A vs H1 Q E0) tNil)))
          { nx := fun σ H' => ∃ (b : Bytes) (v2 : Option V), σ = [some (.ref p), some (.ref sg), v2] ∧ Same H (Off H' sg) ∧ H' sg = some (.lst (nis b)) ∧ saidF [] l = saidF b (l.drop (i + 1)), rt := Q } [some (.ref p), some (.ref sg), some (.ref a)] H3 := by
      intro c H3 hc s3 h3
      refine ⟨_, rfl, .inl ⟨rfl, _, .of h3⟩, _, rfl, a, x, rfl, hx2.same (s3.trans Off.same), by omega, by omega, fun H4 q s4 nq h4 => ?_⟩
      have h34 := s4 _ _ h3
      refine ⟨sg, q, _, _, rfl, rfl, h34, h4, ?_, ?_⟩
      · rw [nis_length, nis_length, hc, List.length_append, sizeLine_eq]
        omega
      refine ⟨c ++ Sx05.itemText x, _, rfl, ?_, ?_, ?_⟩
      · rw [Off.upd]
        exact s3.trans (Off.mono s4)
      · rw [upd_same, nis_app]
      · rw [hc]
        exact hsd
    by_cases c1 : 0 < b.length
    · refine if_true_of (decide_eq_true (by omega)) ?_
      refine ⟨_, rfl, .inl ⟨rfl, _, .of hsg⟩, sg, _, _, rfl, rfl, hsg, ?_, ?_⟩
      · rw [nis_length, sizeLine_eq]
        omega
      refine go (b ++ [10]) _ (by rw [if_neg (by omega)]) ?_ ?_
      · rw [Off.upd]
        exact s2
      · rw [upd_same]
        unfold nis
        rw [List.map_append]
        rfl
    · refine if_false_of (decide_eq_false (by omega)) ?_
      exact go b _ (by rw [if_pos (by omega), List.append_nil]) s2 hsg
  · rintro σ H1 ⟨b, v2, rfl, s2, hsg, hsd⟩
    rw [List.length_map, la, List.drop_length] at hsd
    refine ⟨_, rfl, k _ sg (s2.trans Off.same) nsg ?_⟩
    rw [hsd]
    exact hsg
end
end G

end

section
set_option Elab.async false
set_option linter.all false
set_option maxRecDepth 100000
set_option maxHeartbeats 4000000
namespace G
open PySem PySem.Spec PyProof.Rows L2 GR
/-! ### pieces as keys -/
def nums (l : Bytes) : List NestedKey := l.map fun n : Nat => .num (n : Int)
def keyOf (p : Pc) : NestedKey := .tup [.num (p.seam : Int), .tup (nums p.form), .tup (nums p.gloss)]
theorem nums_inj : ∀ {a b : Bytes}, nums a = nums b → a = b
  | [], [], _ => rfl
  | [], _ :: _, h => by cases h
  | _ :: _, [], h => by cases h
  | x :: a, y :: b, h => by
    have h' : NestedKey.num (x : Int) :: nums a = .num (y : Int) :: nums b := h
    obtain ⟨h1, h2⟩ := List.cons.inj h'
    have h3 := NestedKey.num.inj h1
    rw [nums_inj h2, Int.ofNat.inj h3]
theorem keyOf_inj {p q : Pc} (h : keyOf p = keyOf q) : p = q := by
  obtain ⟨s, f, g⟩ := p
  obtain ⟨s', f', g'⟩ := q
  have h' := NestedKey.tup.inj h
  simp only [List.cons.injEq, NestedKey.num.injEq, NestedKey.tup.injEq, and_true] at h'
  obtain ⟨h1, h2, h3⟩ := h'
  rw [nums_inj h2, nums_inj h3, Int.ofNat.inj h1]
theorem nums_depth : ∀ l : Bytes, NestedKey.depthAll (nums l) = 0
  | [] => by unfold nums; simp [NestedKey.depthAll]
  | n :: r => by
    have ih := nums_depth r
    show NestedKey.depthAll (.num (n : Int) :: nums r) = 0
    simp only [NestedKey.depthAll, NestedKey.depth, ih]
    rfl
theorem keyOf_depth (p : Pc) : (keyOf p).depth ≤ 8 := by
  unfold keyOf
  simp only [NestedKey.depth, NestedKey.depthAll, nums_depth]
  decide
theorem nums_at {H : Hp} : ∀ l : Bytes, NKall H (nums l) (nis l)
  | [] => by
    show NKall H [] []
    rw [NKall]
  | n :: r => by
    show NKall H (.num (n : Int) :: nums r) (ni n :: nis r)
    rw [NKall]
    exact ⟨ni n, nis r, rfl, by rw [NKat], nums_at r⟩
theorem nk_pc {H : Hp} {a : Addr} {p : Pc} (h : PcAt H a p) : NKat H (keyOf p) (.ref a) := by
  obtain ⟨f, g, e1, e2, e3⟩ := h
  unfold keyOf
  rw [NKat]
  refine ⟨a, _, rfl, e1, ?_⟩
  rw [NKall]
  refine ⟨_, _, rfl, by rw [NKat], ?_⟩
  rw [NKall]
  refine ⟨_, _, rfl, ?_, ?_⟩
  · rw [NKat]
    exact ⟨f, _, rfl, e2, nums_at _⟩
  rw [NKall]
  refine ⟨_, _, rfl, ?_, ?_⟩
  · rw [NKat]
    exact ⟨g, _, rfl, e3, nums_at _⟩
  · rw [NKall]
/-! ### the tally -/
abbrev Tly := List (Pc × Nat)
def Tal (H : Hp) (kvs : NKV) (L : Tly) : Prop := Paired (fun (y : NestedKey × Addr × V) (z : Pc × Nat) => y.1 = keyOf z.1 ∧ PcAt H y.2.1 z.1 ∧ y.2.2 = ni z.2) kvs L
theorem Tal.same {H H' : Hp} (s : Same H H') {kvs : NKV} {L : Tly} (h : Tal H kvs L) : Tal H' kvs L := Paired.mapP h fun _ _ z => ⟨z.1, z.2.1.same s, z.2.2⟩
theorem Tal.keyed {H : Hp} {kvs : NKV} {L : Tly} (h : Tal H kvs L) : Keyed H kvs := by
  unfold Tal at h
  induction h with
  | nil => intro y hy; cases hy
  | cons r t ih =>
    intro y hy
    rcases List.mem_cons.mp hy with rfl | hy
    · rw [r.1]
      exact ⟨nk_pc r.2.1, keyOf_depth _⟩
    · exact ih y hy
def cnt (L : Tly) (p : Pc) : Option Nat := (L.find? fun z => decide (z.1 = p)).map (·.2)
def bump (L : Tly) (p : Pc) : Tly := match cnt L p with
  | some n => L.map fun z => if z.1 = p then (z.1, n + 1) else z
  | none => L ++ [(p, 1)]
theorem tal_at {H : Hp} {p : Pc} : ∀ {kvs : NKV} {L : Tly}, Tal H kvs L → (atN kvs (keyOf p)).map (·.2) = (cnt L p).map ni
  | _, _, .nil => rfl
  | _, _, .cons (a := y) (b := z) r t => by
    obtain ⟨e1, e2, e3⟩ := r
    have ih := tal_at (p := p) t
    by_cases h : z.1 = p
    · have h' : y.1 = keyOf p := by rw [e1, h]
      simp only [atN, cnt, List.find?_cons, h, h', decide_true, Option.map_some, e3]
    · have h' : ¬ y.1 = keyOf p := fun q => h (keyOf_inj (e1.symm.trans q))
      simp only [atN, cnt, List.find?_cons, h, h', decide_false]
      exact ih
theorem tal_map {H : Hp} {p : Pc} {n : Nat} : ∀ {kvs : NKV} {L : Tly}, Tal H kvs L → Tal H (kvs.map (putN (keyOf p) (ni (n + 1)))) (L.map fun z => if z.1 = p then (z.1, n + 1) else z)
  | _, _, .nil => .nil
  | _, _, .cons (a := y) (b := z) r t => by
    refine .cons ?_ (tal_map t)
    obtain ⟨e1, e2, e3⟩ := r
    by_cases h : z.1 = p
    · have h' : y.1 = keyOf p := by rw [e1, h]
      simp only [putN, h', if_true]
      rw [if_pos h]
      exact ⟨by rw [h], e2, rfl⟩
    · have h' : ¬ y.1 = keyOf p := fun q => h (keyOf_inj (e1.symm.trans q))
      simp only [putN, h', if_false]
      rw [if_neg h]
      exact ⟨e1, e2, e3⟩
theorem tal_st {H : Hp} {a : Addr} {p : Pc} {kvs : NKV} {L : Tly} (h : Tal H kvs L) (hp : PcAt H a p) : Tal H (stN kvs (keyOf p) a (ni ((cnt L p).getD 0 + 1))) (bump L p) := by
  have z := tal_at (p := p) h
  unfold GR.stN bump
  cases hc : cnt L p with
  | none =>
    rw [hc] at z
    have e : atN kvs (keyOf p) = none := by
      cases q : atN kvs (keyOf p) with
      | none => rfl
      | some y =>
        rw [q] at z
        cases z
    rw [e]
    exact paired_snoc h ⟨rfl, hp, rfl⟩
  | some n =>
    rw [hc] at z
    have e : (atN kvs (keyOf p)).isSome = true := by
      cases q : atN kvs (keyOf p) with
      | none =>
        rw [q] at z
        cases z
      | some y => rfl
    rw [if_pos e]
    exact tal_map h
theorem bump_len (L : Tly) (p : Pc) : (bump L p).length ≤ L.length + 1 := by
  unfold bump
  split
  · rw [List.length_map]
    omega
  · rw [List.length_append]
    exact Nat.le_refl _
def tally (ps : List Pc) : Tly := ps.foldl bump []
theorem tally_snoc (ps : List Pc) (p : Pc) : tally (ps ++ [p]) = bump (tally ps) p := by
  unfold tally
  rw [List.foldl_append]
  rfl
theorem find_map {l : List Pc} {f : Pc → Nat} {p : Pc} : ((l.map fun q => (q, f q)).find? fun z => decide (z.1 = p)).map (·.2) = if p ∈ l then some (f p) else none := by
  induction l with
  | nil => rfl
  | cons q l ih =>
    by_cases h : q = p
    · subst h
      simp [List.find?_cons]
    · have h2 : ¬ p = q := fun z => h z.symm
      simp only [List.map_cons, List.find?_cons, h, decide_false, List.mem_cons, h2, false_or]
      exact ih
theorem tally_rev : ∀ r : List Pc, tally r.reverse = r.reverse.eraseDups.map fun p => (p, r.reverse.count p)
  | [] => rfl
  | p :: r => by
    have ih := tally_rev r
    rw [List.reverse_cons, tally_snoc, ih]
    generalize r.reverse = ps
    have hc : cnt (ps.eraseDups.map fun q => (q, ps.count q)) p = if p ∈ ps then some (ps.count p) else none := by
      unfold cnt
      rw [find_map]
      simp only [List.mem_eraseDups]
    unfold bump
    rw [hc, List.eraseDups_append]
    by_cases h : p ∈ ps
    · rw [if_pos h]
      have e : ([p] : List Pc).removeAll ps = [] := by
        unfold List.removeAll
        simp [h]
      rw [e]
      simp only [List.eraseDups_nil, List.append_nil, List.map_map]
      refine List.map_congr_left fun q hq => ?_
      show (if q = p then (q, ps.count p + 1) else (q, ps.count q)) = (q, (ps ++ [p]).count q)
      by_cases hqp : q = p
      · rw [if_pos hqp, hqp, List.count_append]
        simp
      · rw [if_neg hqp, List.count_append]
        have : ([p] : List Pc).count q = 0 := List.count_eq_zero.mpr (by simpa using hqp)
        rw [this]
        rfl
    · rw [if_neg h]
      have e : ([p] : List Pc).removeAll ps = [p] := by
        unfold List.removeAll
        simp [h]
      have e2 : ([p] : List Pc).eraseDups = [p] := rfl
      rw [e, e2, List.map_append]
      have g1 : (ps.eraseDups.map fun q => (q, ps.count q)) = ps.eraseDups.map fun q => (q, (ps ++ [p]).count q) := by
        refine List.map_congr_left fun q hq => ?_
        have hq2 : q ∈ ps := List.mem_eraseDups.mp hq
        have : ([p] : List Pc).count q = 0 := List.count_eq_zero.mpr (by
          intro z
          rw [List.mem_singleton.mp z] at hq2
          exact h hq2)
        rw [List.count_append, this]
        rfl
      have g2 : (ps ++ [p]).count p = 1 := by
        rw [List.count_append, List.count_eq_zero.mpr h]
        simp
      rw [g1]
      simp only [List.map_cons, List.map_nil, g2]
theorem tally_eq (ps : List Pc) : tally ps = ps.eraseDups.map fun p => (p, ps.count p) := by
  have z := tally_rev ps.reverse
  rw [List.reverse_reverse] at z
  exact z
def spTimes (P : Program) (w : World) (A : Adr) : Sp := fun vs H Q _ => ∃ (S : Addr → Prop) (p : Addr) (l : List Sx05.Item), vs = [.ref p] ∧ Items A (Hd S H) p l ∧ OkSt l ∧
  ∀ H' d kvs, Same H H' → H d = none → H' d = some (dN P w d kvs) → Tal (Hd S H) kvs (tally (Sx05.allPieces l)) → kvs.length ≤ 14400 → Q (.ref d) H'
section
variable {P : Program} {w : World} {K : PySem.W.Frag} {mg : Str → Option Value} {base : Heap} {A : Adr}
theorem sc_times_of : FnScope ["entries", "times", "item", "word", "piece"] ["entries"] (defScope s_times_of) := ⟨rfl, rfl, rfl, by decide +kernel, rfl, by decide +kernel, by decide +kernel⟩
theorem ok_times_of {f : Addr} {fd : FuncData} (F : Fun K "times_of" "times_of" s_times_of f fd) (RW : Rec2 P w K mg base "Word" A.Word "rows" "pieces") (RI : Rec2 P w K mg base "Item" A.Item "words" "free") :
    FnOk P w K mg base CX0 1 f fd ["entries"] (spTimes P w A) := by
  refine F.ok sc_times_of (fun vs H Q E h => ?_) (fun cdv Ar outer s H vs Q E hr h => ?_)
  · obtain ⟨S, p, l, rfl, _⟩ := h
    rfl
  refine ⟨_, pss_cons (ps_set (i := 1) sc_times_of.nd rfl (.inl rfl) pe_nnew)
    (pss_cons (ps_for PassesOwn.never rfl (pi_list (pv 0)) (pg_name (i := 2) sc_times_of.nd rfl (.inl rfl))
      (pss_one (ps_for PassesOwn.never rfl (pi_list (pe_fld (pv 2) rfl)) (pg_name (i := 3) sc_times_of.nd rfl (.inl rfl))
        (pss_one (ps_for PassesOwn.never rfl (pi_list (pe_fld (pv 3) rfl)) (pg_name (i := 4) sc_times_of.nd rfl (.inl rfl))
          (pss_one (ps_nput hr (pv 1) (pv 4) (pe_op op_add (pe_nget hr (pv 1) (pv 4) pe_int ⟨rfl, rfl, rfl, rfl⟩) pe_int))))))))
    (pss_one (ps_ret (pv 1)))), ?_⟩
  obtain ⟨S, p, l, rfl, ⟨as, hpG, pr⟩, hok, k⟩ := h
  have hp := Hd.sub _ _ hpG
  have sG : Same (Hd S H) H := Hd.sub
  have la := Paired.length pr
  intro d nd
  have s1 : Same H (upd H d (dN P w d [])) := Same.new nd
  refine ⟨_, rfl, p, rfl, ⟨_, .of (s1 _ _ hp)⟩, ?_⟩
  refine for_it (walk_list (K := K) (a := p) (xs := as.map V.ref)) (fun i σ H' => ∃ (kvs : NKV) (v2 v3 v4 : Option V), σ = [some (.ref p), some (.ref d), v2, v3, v4] ∧ Same H (Off H' d) ∧ H' d = some (dN P w d kvs) ∧
    Tal (Hd S H) kvs (tally (Sx05.allPieces (l.take i))) ∧ kvs.length ≤ i * 240) ?_ ?_ ?_ ?_
  · exact ⟨[], none, none, none, rfl, Off.old s1 nd, upd_same, .nil, Nat.zero_le _⟩
  · rintro i σ H' hi ⟨kvs, v2, v3, v4, _, s2, _⟩
    exact .of (Off.same _ _ (s2 _ _ hp))
  · rintro i v σ H1 H2 hi ⟨kvs0, v2, v3, v4, rfl, s2, hd, ht0, hl0⟩ ⟨rfl, hv⟩
    rw [List.getElem?_map] at hv
    obtain ⟨a, ha1, rfl⟩ := Option.map_eq_some_iff.mp hv
    obtain ⟨x, hx1, dx, pw, pf, ea, ⟨bs, hbs, pb⟩, _⟩ := paired_get pr ha1
    have ea := sG _ _ ea
    have hbs := sG _ _ hbs
    have lb := Paired.length pb
    have hxl := hok.2 x (List.mem_of_getElem? hx1)
    refine ⟨_, rfl, a, A.Item, dx, _, _, rfl, Off.same _ _ (s2 _ _ ea), RI.cl, RI.n1, lk1, pw, rfl, ⟨_, .of (Off.same _ _ (s2 _ _ hbs))⟩, ?_⟩
    refine for_it (walk_list (K := K) (a := pw) (xs := bs.map V.ref)) (fun j σ H' => ∃ (kvs : NKV) (v3 v4 : Option V), σ = [some (.ref p), some (.ref d), some (.ref a), v3, v4] ∧ Same H (Off H' d) ∧ H' d = some (dN P w d kvs) ∧
      Tal (Hd S H) kvs (tally (Sx05.allPieces (l.take i) ++ (x.words.take j).flatMap fun y => y.pieces)) ∧ kvs.length ≤ i * 240 + j * 8) ?_ ?_ ?_ ?_
    · refine ⟨kvs0, v3, v4, rfl, s2, hd, ?_, by omega⟩
      simpa using ht0
    · rintro j σ H' hj ⟨kvs, v3, v4, _, s3, _⟩
      exact .of (Off.same _ _ (s3 _ _ hbs))
    · rintro j v σ H3 H4 hj ⟨kvs1, v3, v4, rfl, s3, hd1, ht1, hl1⟩ ⟨rfl, hv⟩
      rw [List.getElem?_map] at hv
      obtain ⟨b, hb1, rfl⟩ := Option.map_eq_some_iff.mp hv
      obtain ⟨y, hy1, dw, tw, pp, q1, q2, q3, e1, e2, e3, e4, e5, ⟨cs, hcs, pc⟩⟩ := paired_get pb hb1
      have e1 := sG _ _ e1
      have hcs := sG _ _ hcs
      have lc := Paired.length pc
      have hyl := hxl.2 y (List.mem_of_getElem? hy1)
      refine ⟨_, rfl, b, A.Word, dw, _, _, rfl, Off.same _ _ (s3 _ _ e1), RW.cl, RW.n2, lk2 RW.ne, pp, rfl, ⟨_, .of (Off.same _ _ (s3 _ _ hcs))⟩, ?_⟩
      refine for_it (walk_list (K := K) (a := pp) (xs := cs.map V.ref)) (fun n σ H' => ∃ (kvs : NKV) (v4 : Option V), σ = [some (.ref p), some (.ref d), some (.ref a), some (.ref b), v4] ∧ Same H (Off H' d) ∧ H' d = some (dN P w d kvs) ∧
        Tal (Hd S H) kvs (tally ((Sx05.allPieces (l.take i) ++ (x.words.take j).flatMap fun y => y.pieces) ++ y.pieces.take n)) ∧ kvs.length ≤ i * 240 + j * 8 + n) ?_ ?_ ?_ ?_
      · refine ⟨kvs1, v4, rfl, s3, hd1, ?_, by omega⟩
        rw [List.take_zero, List.append_nil]
        exact ht1
      · rintro n σ H' hn ⟨kvs, v4, _, s4, _⟩
        exact .of (Off.same _ _ (s4 _ _ hcs))
      · rintro n v σ H5 H6 hn ⟨kvs2, v4, rfl, s4, hd2, ht2, hl2⟩ ⟨rfl, hv⟩
        rw [List.getElem?_map] at hv
        obtain ⟨c, hc1, rfl⟩ := Option.map_eq_some_iff.mp hv
        obtain ⟨z, hz1, hz2⟩ := paired_get pc hc1
        have s46 : Same (Hd S H) H6 := sG.trans (s4.trans Off.same)
        have kd := ht2.keyed.same s46
        have nk := nk_pc (hz2.same s46)
        rw [List.length_map] at hi hj hn
        have l1 := hok.1
        refine ⟨_, rfl, d, kvs2, rfl, hd2, kd, _, rfl, kvs2, keyOf z, c, hd2, kd, rfl, nk, keyOf_depth _, ?_⟩
        rw [tal_at ht2]
        refine ⟨((cnt (tally ((Sx05.allPieces (l.take i) ++ (x.words.take j).flatMap fun y => y.pieces) ++ y.pieces.take n)) z).getD 0 : Nat), 1, ?_, rfl, ?_⟩
        · cases cnt (tally ((Sx05.allPieces (l.take i) ++ (x.words.take j).flatMap fun y => y.pieces) ++ y.pieces.take n)) z <;> rfl
        refine ⟨_, rfl, _, rfl, d, kvs2, keyOf z, c, rfl, hd2, kd, rfl, nk, keyOf_depth _, by omega, ?_⟩
        have st := tal_st ht2 hz2
        refine ⟨_, _, rfl, ?_, upd_same, ?_, ?_⟩
        · rw [Off.upd]
          exact s4
        · rw [List.take_add_one, hz1, ← List.append_assoc]
          show Tal (Hd S H) _ (tally (_ ++ [z]))
          rw [tally_snoc]
          exact st
        · have := bump_len (tally ((Sx05.allPieces (l.take i) ++ (x.words.take j).flatMap fun y => y.pieces) ++ y.pieces.take n)) z
          have g1 := Paired.length st
          have g2 := Paired.length ht2
          show (GR.stN kvs2 (keyOf z) c (ni ((cnt _ z).getD 0 + 1))).length ≤ _
          omega
      · rintro σ H5 ⟨kvs2, v4, rfl, s4, hd2, ht2, hl2⟩
        rw [List.length_map, lc] at hl2
        rw [List.length_map, lc, List.take_length] at ht2
        refine ⟨kvs2, _, _, rfl, s4, hd2, ?_, by omega⟩
        rw [List.take_add_one, hy1, List.flatMap_append, ← List.append_assoc]
        simpa using ht2
    · rintro σ H3 ⟨kvs1, v3, v4, rfl, s3, hd1, ht1, hl1⟩
      rw [List.length_map, lb] at hl1
      rw [List.length_map, lb, List.take_length] at ht1
      refine ⟨kvs1, _, _, _, rfl, s3, hd1, ?_, by omega⟩
      rw [List.take_add_one, hx1]
      unfold Sx05.allPieces at ht1 ⊢
      rw [List.flatMap_append]
      simpa using ht1
  · rintro σ H1 ⟨kvs, v2, v3, v4, rfl, s2, hd, ht, hl⟩
    rw [List.length_map, la] at hl
    rw [List.length_map, la, List.take_length] at ht
    have := hok.1
    exact ⟨_, rfl, k _ d kvs (s2.trans Off.same) nd hd ht (by omega)⟩
end
end G

end

section
set_option Elab.async false
set_option linter.all false
set_option maxHeartbeats 2000000
namespace G

/-! ### where a search ends -/
abbrev minO (m : Option Nat) (n : Nat) : Option Nat := match m with
  | none => some n
  | some k => some (min k n)
theorem min_some : ∀ (L : List Nat) (k : Nat), ∃ e, L.foldl minO (some k) = some e ∧ (e = k ∨ e ∈ L) ∧ e ≤ k ∧ ∀ n ∈ L, e ≤ n
  | [], k => ⟨k, rfl, .inl rfl, Nat.le_refl _, fun n hn => by cases hn⟩
  | a :: L, k => by
    obtain ⟨e, h1, h2, h3, h4⟩ := min_some L (min k a)
    refine ⟨e, h1, ?_, by omega, fun n hn => ?_⟩
    · rcases h2 with h2 | h2
      · by_cases hk : k ≤ a
        · exact .inl (by omega)
        · exact .inr (by rw [show e = a by omega]; exact List.mem_cons_self)
      · exact .inr (List.mem_cons_of_mem _ h2)
    · rcases List.mem_cons.mp hn with rfl | hn
      · omega
      · exact h4 n hn
theorem min_none {L : List Nat} : L.foldl minO none = none ↔ L = [] := by
  cases L with
  | nil => exact ⟨fun _ => rfl, fun _ => rfl⟩
  | cons a L =>
    obtain ⟨e, h1, _⟩ := min_some L a
    refine ⟨fun h => ?_, fun h => by cases h⟩
    have h : L.foldl minO (some a) = none := h
    rw [h1] at h
    cases h
theorem min_is {L : List Nat} {e : Nat} (h : L.foldl minO none = some e) : e ∈ L ∧ ∀ n ∈ L, e ≤ n := by
  cases L with
  | nil => cases h
  | cons a L =>
    obtain ⟨e', h1, h2, h3, h4⟩ := min_some L a
    have h : L.foldl minO (some a) = some e := h
    rw [h1] at h
    cases h
    refine ⟨?_, fun n hn => ?_⟩
    · rcases h2 with rfl | h2
      · exact List.mem_cons_self
      · exact List.mem_cons_of_mem _ h2
    · rcases List.mem_cons.mp hn with rfl | hn
      · exact h3
      · exact h4 n hn
/-- from the word at p the steps can be taken so that e is the last -/
def Reach (l : List Sx05.Word) : List Sx05.Step → Nat → Nat → Prop
  | [], p, e => e = p
  | x :: r, p, e => ∃ j, p < j ∧ j ≤ p + 1 + x.gap ∧ (∃ w, l[j]? = some w ∧ x.holds w = true) ∧ Reach l r j e
theorem end_is (l : List Sx05.Word) : ∀ (q : List Sx05.Step) (p : Nat), (Sx05.endFrom l q (p + 1) = none ↔ ∀ e, ¬ Reach l q p e) ∧ ∀ e, Sx05.endFrom l q (p + 1) = some e → Reach l q p e ∧ ∀ e', Reach l q p e' → e ≤ e'
  | [], p => by
    refine ⟨⟨fun h => (by cases h), fun h => absurd rfl (h p)⟩, fun e h => ?_⟩
    have h : some (p + 1 - 1) = some e := h
    cases h
    exact ⟨rfl, fun e' h' => Nat.le_of_eq h'.symm⟩
  | x :: r, p => by
    have es : Sx05.endFrom l (x :: r) (p + 1) = ((List.range (x.gap + 1)).filterMap fun g => match l[p + 1 + g]? with
      | some w => if x.holds w = true then Sx05.endFrom l r (p + 1 + g + 1) else none
      | none => none).foldl minO none := rfl
    have mem : ∀ n, n ∈ ((List.range (x.gap + 1)).filterMap fun g => match l[p + 1 + g]? with
      | some w => if x.holds w = true then Sx05.endFrom l r (p + 1 + g + 1) else none
      | none => none) ↔ ∃ j, p < j ∧ j ≤ p + 1 + x.gap ∧ (∃ w, l[j]? = some w ∧ x.holds w = true) ∧ Sx05.endFrom l r (j + 1) = some n := by
      intro n
      rw [List.mem_filterMap]
      constructor
      · rintro ⟨g, hg, h⟩
        rw [List.mem_range] at hg
        cases hw : l[p + 1 + g]? with
        | none =>
          rw [hw] at h
          cases h
        | some w =>
          rw [hw] at h
          have h : (if x.holds w = true then Sx05.endFrom l r (p + 1 + g + 1) else none) = some n := h
          split at h
          · rename_i hh
            exact ⟨p + 1 + g, by omega, by omega, ⟨w, hw, hh⟩, h⟩
          · cases h
      · rintro ⟨j, h1, h2, ⟨w, hw, hh⟩, h⟩
        refine ⟨j - (p + 1), by rw [List.mem_range]; omega, ?_⟩
        rw [show p + 1 + (j - (p + 1)) = j by omega, hw]
        show (if x.holds w = true then Sx05.endFrom l r (j + 1) else none) = some n
        rw [if_pos hh, h]
    generalize ((List.range (x.gap + 1)).filterMap fun g => match l[p + 1 + g]? with
      | some w => if x.holds w = true then Sx05.endFrom l r (p + 1 + g + 1) else none
      | none => none) = L at es mem
    rw [es]
    refine ⟨?_, fun e he => ?_⟩
    · rw [min_none]
      constructor
      · rintro rfl e ⟨j, h1, h2, hw, hr⟩
        have ih := end_is l r j
        cases hj : Sx05.endFrom l r (j + 1) with
        | none => exact ih.1.mp hj e hr
        | some n => exact absurd ((mem n).mpr ⟨j, h1, h2, hw, hj⟩) (by simp)
      · intro h
        refine List.eq_nil_iff_forall_not_mem.mpr fun n hn => ?_
        obtain ⟨j, h1, h2, hw, hr⟩ := (mem n).mp hn
        exact h n ⟨j, h1, h2, hw, ((end_is l r j).2 n hr).1⟩
    · obtain ⟨m1, m2⟩ := min_is he
      obtain ⟨j, h1, h2, hw, hr⟩ := (mem e).mp m1
      refine ⟨⟨j, h1, h2, hw, ((end_is l r j).2 e hr).1⟩, ?_⟩
      rintro e' ⟨j', h1', h2', hw', hr'⟩
      cases hj : Sx05.endFrom l r (j' + 1) with
      | none => exact absurd hr' ((end_is l r j').1.mp hj e')
      | some n =>
        have z := ((end_is l r j').2 n hj).2 e' hr'
        have y := m2 n ((mem n).mpr ⟨j', h1', h2', hw', hj⟩)
        omega
theorem end_none {l : List Sx05.Word} {q : List Sx05.Step} {p : Nat} : Sx05.endFrom l q (p + 1) = none ↔ ∀ e, ¬ Reach l q p e := (end_is l q p).1
theorem end_some {l : List Sx05.Word} {q : List Sx05.Step} {p e : Nat} (h1 : Reach l q p e) (h2 : ∀ e', Reach l q p e' → e ≤ e') : Sx05.endFrom l q (p + 1) = some e := by
  cases h : Sx05.endFrom l q (p + 1) with
  | none => exact absurd h1 (end_none.mp h e)
  | some n =>
    obtain ⟨g1, g2⟩ := (end_is l q p).2 n h
    have a := g2 e h1
    have b := h2 n g1
    congr 1
    omega
/-! ### in how many ways a word is made -/
def ow (k : List Sx05.Piece) (b : Bytes) (i : Nat) : Nat := (Sx05.onward k b).getD i 0
abbrev owAt (k : List Sx05.Piece) (b : Bytes) (t : List Nat) (i : Nat) : Nat := if i = b.length then 1 else (k.map fun p => if p.seam ≠ 0 ∧ p.form.isPrefixOf (b.drop i) = true then t.getD (p.form.length - 1) 0 else 0).sum
/-- the table from place j on -/
def owT (k : List Sx05.Piece) (b : Bytes) : Nat → List Nat
  | 0 => []
  | n + 1 => owAt k b (owT k b n) (b.length - n) :: owT k b n
theorem owT_len (k : List Sx05.Piece) (b : Bytes) : ∀ n, (owT k b n).length = n
  | 0 => rfl
  | n + 1 => by
    show (owT k b n).length + 1 = n + 1
    rw [owT_len k b n]
theorem fold_owT (k : List Sx05.Piece) (b : Bytes) : ∀ n, n ≤ b.length + 1 → ((List.range (b.length + 1)).reverse.take n).foldl (fun (t : List Nat) i => owAt k b t i :: t) [] = owT k b n
  | 0, _ => by rw [List.take_zero]; rfl
  | n + 1, h => by
    have hl : n < ((List.range (b.length + 1)).reverse).length := by rw [List.length_reverse, List.length_range]; omega
    have hg : ((List.range (b.length + 1)).reverse)[n]? = some (b.length - n) := by
      rw [List.getElem?_reverse (by rw [List.length_range]; omega), List.length_range, List.getElem?_range (by omega)]
      rfl
    rw [List.take_add_one, hg, List.foldl_append, fold_owT k b n (by omega)]
    rfl
theorem onward_is (k : List Sx05.Piece) (b : Bytes) : Sx05.onward k b = owT k b (b.length + 1) := by
  have z := fold_owT k b (b.length + 1) (Nat.le_refl _)
  rw [List.take_of_length_le (by rw [List.length_reverse, List.length_range]; omega)] at z
  exact z
theorem owT_get (k : List Sx05.Piece) (b : Bytes) : ∀ (n i : Nat), i < n → (owT k b n).getD i 0 = owAt k b (owT k b (n - 1 - i)) (b.length - (n - 1 - i))
  | 0, i, h => by omega
  | n + 1, 0, h => by
    show owAt k b (owT k b n) (b.length - n) = _
    rw [show n + 1 - 1 - 0 = n by omega]
  | n + 1, i + 1, h => by
    have z := owT_get k b n i (by omega)
    show (owT k b n).getD i 0 = _
    rw [z, show n + 1 - 1 - (i + 1) = n - 1 - i by omega]
theorem ow_end (k : List Sx05.Piece) (b : Bytes) : ow k b b.length = 1 := by
  unfold ow
  rw [onward_is, owT_get k b _ _ (by omega), show b.length + 1 - 1 - b.length = 0 by omega]
  show (if b.length - 0 = b.length then 1 else _) = 1
  rw [if_pos (by omega)]
theorem ow_big {k : List Sx05.Piece} {b : Bytes} {i : Nat} (h : b.length < i) : ow k b i = 0 := by
  unfold ow
  rw [onward_is, List.getD_eq_getElem?_getD, List.getElem?_eq_none (by rw [owT_len]; omega)]
  rfl
theorem ow_step {k : List Sx05.Piece} (hk : ∀ p ∈ k, p.form ≠ []) {b : Bytes} {i : Nat} (h : i < b.length) : ow k b i = (k.map fun p => if p.seam ≠ 0 ∧ p.form.isPrefixOf (b.drop i) = true then ow k b (i + p.form.length) else 0).sum := by
  have e1 : ow k b i = owAt k b (owT k b (b.length - i)) i := by
    unfold ow
    rw [onward_is, owT_get k b _ _ (by omega), show b.length + 1 - 1 - i = b.length - i by omega, show b.length - (b.length - i) = i by omega]
  rw [e1]
  show (if i = b.length then 1 else _) = _
  rw [if_neg (by omega)]
  congr 1
  refine List.map_congr_left fun p hp => ?_
  split
  · rename_i hc
    have hl : 0 < p.form.length := List.length_pos_iff.mpr (hk p hp)
    have hpre : p.form.length ≤ (b.drop i).length := (List.isPrefixOf_iff_prefix.mp hc.2).length_le
    rw [List.length_drop] at hpre
    unfold ow
    rw [onward_is, owT_get k b _ _ (by omega), owT_get k b _ _ (by omega)]
    rw [show b.length - i - 1 - (p.form.length - 1) = b.length + 1 - 1 - (i + p.form.length) by omega]
  · rfl
/-- all rows that go on from place i -/
def goOn (k : List Sx05.Piece) (b : Bytes) : Nat → Nat → List (List Nat)
  | 0, _ => []
  | f + 1, i => if i = b.length then [[]] else k.zipIdx.flatMap fun x => if x.1.seam ≠ 0 ∧ x.1.form.isPrefixOf (b.drop i) = true then (goOn k b f (i + x.1.form.length)).map fun r => x.2 :: r else []
theorem sum_zipIdx {α : Type} (f : α → Nat) : ∀ (l : List α) (n : Nat), ((l.zipIdx n).map fun x => f x.1).sum = (l.map f).sum
  | [], _ => rfl
  | a :: l, n => by
    rw [List.zipIdx_cons, List.map_cons, List.map_cons, List.sum_cons, List.sum_cons, sum_zipIdx f l]
theorem pre_len {f b : Bytes} {i : Nat} (h : f.isPrefixOf (b.drop i) = true) (hi : i ≤ b.length) : i + f.length ≤ b.length := by
  have z := (List.isPrefixOf_iff_prefix.mp h).length_le
  rw [List.length_drop] at z
  omega
theorem goOn_len {k : List Sx05.Piece} (hk : ∀ p ∈ k, p.form ≠ []) {b : Bytes} : ∀ (f i : Nat), i ≤ b.length → b.length - i < f → (goOn k b f i).length = ow k b i
  | 0, i, h1, h2 => by omega
  | f + 1, i, h1, h2 => by
    show (if i = b.length then [[]] else _ : List (List Nat)).length = _
    by_cases hi : i = b.length
    · rw [if_pos hi, hi, ow_end]
      rfl
    · rw [if_neg hi, ow_step hk (by omega), List.length_flatMap, ← sum_zipIdx _ k 0]
      congr 1
      refine List.map_congr_left fun x hx => ?_
      have hm : x.1 ∈ k := List.fst_mem_of_mem_zipIdx hx
      have hl : 0 < x.1.form.length := List.length_pos_iff.mpr (hk _ hm)
      split
      · rename_i hc
        rw [List.length_map]
        have hp := pre_len hc.2 h1
        exact goOn_len hk f _ hp (by omega)
      · rfl
theorem goOn_fuel {k : List Sx05.Piece} (hk : ∀ p ∈ k, p.form ≠ []) {b : Bytes} : ∀ (f g i : Nat), i ≤ b.length → b.length - i < f → b.length - i < g → goOn k b f i = goOn k b g i
  | 0, _, i, h1, h2, _ => by omega
  | _ + 1, 0, i, h1, _, h3 => by omega
  | f + 1, g + 1, i, h1, h2, h3 => by
    show (if i = b.length then [[]] else _ : List (List Nat)) = if i = b.length then [[]] else _
    by_cases hi : i = b.length
    · rw [if_pos hi, if_pos hi]
    · rw [if_neg hi, if_neg hi]
      have e : ∀ (l1 l2 : Sx05.Piece × Nat → List (List Nat)), (∀ x ∈ k.zipIdx, l1 x = l2 x) → k.zipIdx.flatMap l1 = k.zipIdx.flatMap l2 := fun l1 l2 h => by
        rw [List.flatMap_def, List.flatMap_def, List.map_congr_left h]
      refine e _ _ fun x hx => ?_
      have hm : x.1 ∈ k := List.fst_mem_of_mem_zipIdx hx
      have hl : 0 < x.1.form.length := List.length_pos_iff.mpr (hk _ hm)
      split
      · rename_i hc
        have hp := pre_len hc.2 h1
        rw [goOn_fuel hk f g _ hp (by omega) (by omega)]
      · rfl
/-- the fold that stops at m rows -/
theorem fold_take {α : Type} (m : Nat) (c : α → Prop) [DecidablePred c] (F : α → List (List Nat)) (R : α → Nat → List (List Nat)) : ∀ (L : List α) (acc done : List (List Nat)), (∀ x ∈ L, ∀ n, 0 < n → c x → R x n = (F x).take n) → acc = done.take m →
    L.foldl (fun l x => if l.length < m ∧ c x then l ++ R x (m - l.length) else l) acc = (done ++ L.flatMap fun x => if c x then F x else []).take m
  | [], acc, done, _, h => by
    rw [List.flatMap_nil, List.append_nil]
    exact h
  | x :: L, acc, done, hR, h => by
    rw [List.foldl_cons, List.flatMap_cons, ← List.append_assoc]
    refine fold_take m c F R L _ _ (fun y hy => hR y (List.mem_cons_of_mem _ hy)) ?_
    have hal : acc.length = min m done.length := by rw [h, List.length_take]
    by_cases hc : c x
    · rw [if_pos hc]
      by_cases hl : acc.length < m
      · rw [if_pos ⟨hl, hc⟩, hR x List.mem_cons_self _ (by omega) hc]
        have e : acc = done := by rw [h, List.take_of_length_le (by omega)]
        rw [e, List.take_append, List.take_of_length_le (l := done) (by rw [← e]; omega)]
      · rw [if_neg fun z => hl z.1, List.take_append, h, show m - done.length = 0 by omega, List.take_zero, List.append_nil]
    · rw [if_neg fun z => hc z.2, if_neg hc, List.append_nil, h]
theorem flat_ext {α β : Type} {L : List α} {f g : α → List β} (h : ∀ x ∈ L, f x = g x) : L.flatMap f = L.flatMap g := by rw [List.flatMap_def, List.flatMap_def, List.map_congr_left h]
theorem rows_is {k : List Sx05.Piece} (hk : ∀ p ∈ k, p.form ≠ []) {b : Bytes} : ∀ (f m i : Nat), 0 < m → i ≤ b.length → b.length - i < f → Sx05.rowsFrom k b (Sx05.onward k b) f m i = (goOn k b f i).take m
  | 0, m, i, h0, h1, h2 => by omega
  | f + 1, m, i, h0, h1, h2 => by
    unfold Sx05.rowsFrom
    show _ = (if i = b.length then [[]] else _ : List (List Nat)).take m
    by_cases hi : i = b.length
    · rw [if_pos hi, if_pos hi, List.take_of_length_le (by show 1 ≤ m; omega)]
    · rw [if_neg hi, if_neg hi]
      have z := fold_take m (fun x : Sx05.Piece × Nat => x.1.seam ≠ 0 ∧ x.1.form.isPrefixOf (b.drop i) = true ∧ 0 < (Sx05.onward k b).getD (i + x.1.form.length) 0)
        (fun x => (goOn k b f (i + x.1.form.length)).map fun r => x.2 :: r) (fun x n => (Sx05.rowsFrom k b (Sx05.onward k b) f n (i + x.1.form.length)).map fun r => x.2 :: r) k.zipIdx [] []
        (fun x hx n hn hc => by
          have hm : x.1 ∈ k := List.fst_mem_of_mem_zipIdx hx
          have hl : 0 < x.1.form.length := List.length_pos_iff.mpr (hk _ hm)
          have hp := pre_len hc.2.1 h1
          show (Sx05.rowsFrom k b (Sx05.onward k b) f n (i + x.1.form.length)).map _ = _
          rw [rows_is hk f n _ hn hp (by omega), List.map_take]) (by rw [List.take_nil])
      refine z.trans ?_
      rw [List.nil_append]
      congr 1
      refine flat_ext fun x hx => ?_
      have hm : x.1 ∈ k := List.fst_mem_of_mem_zipIdx hx
      have hl : 0 < x.1.form.length := List.length_pos_iff.mpr (hk _ hm)
      by_cases hc : x.1.seam ≠ 0 ∧ x.1.form.isPrefixOf (b.drop i) = true
      · rw [if_pos hc]
        have hp := pre_len hc.2 h1
        by_cases h0 : 0 < (Sx05.onward k b).getD (i + x.1.form.length) 0
        · rw [if_pos ⟨hc.1, hc.2, h0⟩]
        · rw [if_neg fun y => h0 y.2.2]
          have e : (goOn k b f (i + x.1.form.length)).length = 0 := by
            rw [goOn_len hk f _ hp (by omega)]
            show (Sx05.onward k b).getD _ 0 = 0
            omega
          rw [List.length_eq_zero_iff.mp e]
          rfl
      · rw [if_neg hc, if_neg fun y => hc ⟨y.1, y.2.1⟩]
/-- all rows of a word -/
def fullRows (k : List Sx05.Piece) (b : Bytes) : List (List Nat) := if b = [] then [] else k.zipIdx.flatMap fun x => if x.1.seam = 0 ∧ x.1.form.isPrefixOf b = true then (goOn k b (b.length + 1) x.1.form.length).map fun r => x.2 :: r else []
theorem ways_is {k : List Sx05.Piece} (hk : ∀ p ∈ k, p.form ≠ []) (b : Bytes) : Sx05.ways k b = (fullRows k b).length := by
  unfold Sx05.ways fullRows
  by_cases hb : b = []
  · rw [if_pos hb, if_pos hb]
    rfl
  · rw [if_neg hb, if_neg hb, List.length_flatMap, ← sum_zipIdx _ k 0]
    congr 1
    refine List.map_congr_left fun x hx => ?_
    have hm : x.1 ∈ k := List.fst_mem_of_mem_zipIdx hx
    have hl : 0 < x.1.form.length := List.length_pos_iff.mpr (hk _ hm)
    split
    · rename_i hc
      have hp := pre_len (i := 0) (b := b) hc.2 (Nat.zero_le _)
      rw [List.length_map, goOn_len hk _ _ (by omega) (by omega)]
      rfl
    · rfl
theorem apart_is {k : List Sx05.Piece} (hk : ∀ p ∈ k, p.form ≠ []) (b : Bytes) (m : Nat) : Sx05.apart k b m = (fullRows k b).take m := by
  unfold Sx05.apart fullRows
  by_cases hb : b = []
  · rw [if_pos hb, if_pos hb, List.take_nil]
  · rw [if_neg hb, if_neg hb]
    have z := fold_take m (fun x : Sx05.Piece × Nat => x.1.seam = 0 ∧ x.1.form.isPrefixOf b = true ∧ 0 < (Sx05.onward k b).getD x.1.form.length 0)
      (fun x => (goOn k b (b.length + 1) x.1.form.length).map fun r => x.2 :: r) (fun x n => (Sx05.rowsFrom k b (Sx05.onward k b) (b.length + 1) n x.1.form.length).map fun r => x.2 :: r) k.zipIdx [] []
      (fun x hx n hn hc => by
        have hm : x.1 ∈ k := List.fst_mem_of_mem_zipIdx hx
        have hp := pre_len (i := 0) (b := b) hc.2.1 (Nat.zero_le _)
        show (Sx05.rowsFrom k b (Sx05.onward k b) (b.length + 1) n x.1.form.length).map _ = _
        rw [rows_is hk _ n _ hn (by omega) (by omega), List.map_take]) (by rw [List.take_nil])
    have z2 : (k.zipIdx.foldl (fun (l : List (List Nat)) (x : Sx05.Piece × Nat) => if l.length < m ∧ x.1.seam = 0 ∧ x.1.form.isPrefixOf b = true ∧ 0 < (Sx05.onward k b).getD x.1.form.length 0 then l ++ (Sx05.rowsFrom k b (Sx05.onward k b) (b.length + 1) (m - l.length) x.1.form.length).map fun r => x.2 :: r else l) []) = _ := z
    dsimp only
    rw [z2, List.take_take, Nat.min_self, List.nil_append]
    congr 1
    refine flat_ext fun x hx => ?_
    have hm : x.1 ∈ k := List.fst_mem_of_mem_zipIdx hx
    by_cases hc : x.1.seam = 0 ∧ x.1.form.isPrefixOf b = true
    · rw [if_pos hc]
      have hp := pre_len (i := 0) (b := b) hc.2 (Nat.zero_le _)
      by_cases h0 : 0 < (Sx05.onward k b).getD x.1.form.length 0
      · rw [if_pos ⟨hc.1, hc.2, h0⟩]
      · rw [if_neg fun y => h0 y.2.2]
        have e : (goOn k b (b.length + 1) x.1.form.length).length = 0 := by
          rw [goOn_len hk _ _ (by omega) (by omega)]
          show (Sx05.onward k b).getD _ 0 = 0
          omega
        rw [List.length_eq_zero_iff.mp e]
        rfl
    · rw [if_neg hc, if_neg fun y => hc ⟨y.1, y.2.1⟩]
end G

end

section
set_option Elab.async false
set_option linter.all false
set_option maxHeartbeats 2000000
namespace G
/-! ### numbers by a key -/
abbrev Grp := List (Bytes × List Nat)
def grp {α : Type} (key : α → Bytes) (L : List (Nat × α)) : Grp := ((L.map fun x => key x.2).eraseDups).map fun b => (b, (L.filter fun x => key x.2 == b).map (·.1))
def gat (G : Grp) (b : Bytes) : Option (List Nat) := (G.find? fun z => decide (z.1 = b)).map (·.2)
def gput (G : Grp) (b : Bytes) (n : Nat) : Grp := if (gat G b).isSome = true then G.map fun z => if z.1 = b then (z.1, z.2 ++ [n]) else z else G ++ [(b, [n])]
theorem find_keys {f : Bytes → List Nat} {b : Bytes} : ∀ l : List Bytes, ((l.map fun c => (c, f c)).find? fun z => decide (z.1 = b)).map (·.2) = if b ∈ l then some (f b) else none
  | [] => rfl
  | c :: l => by
    have ih := find_keys (f := f) (b := b) l
    by_cases h : c = b
    · subst h
      simp [List.find?_cons]
    · have h2 : ¬ b = c := fun z => h z.symm
      simp only [List.map_cons, List.find?_cons, h, decide_false, List.mem_cons, h2, false_or]
      exact ih
theorem gat_grp {α : Type} (key : α → Bytes) (L : List (Nat × α)) (b : Bytes) : gat (grp key L) b = if b ∈ L.map (fun x => key x.2) then some ((L.filter fun x => key x.2 == b).map (·.1)) else none := by
  unfold gat grp
  rw [find_keys]
  simp only [List.mem_eraseDups]
theorem gat_getD {α : Type} (key : α → Bytes) (L : List (Nat × α)) (b : Bytes) : (gat (grp key L) b).getD [] = (L.filter fun x => key x.2 == b).map (·.1) := by
  rw [gat_grp]
  by_cases h : b ∈ L.map (fun x => key x.2)
  · rw [if_pos h]
    rfl
  · rw [if_neg h]
    have e : L.filter (fun x => key x.2 == b) = [] := by
      refine List.filter_eq_nil_iff.mpr fun x hx q => h ?_
      exact List.mem_map.mpr ⟨x, hx, eq_of_beq q⟩
    rw [e]
    rfl
theorem grp_snoc {α : Type} (key : α → Bytes) (L : List (Nat × α)) (x : Nat × α) : grp key (L ++ [x]) = gput (grp key L) (key x.2) x.1 := by
  unfold gput
  rw [gat_grp]
  have flt : ∀ c, (L ++ [x]).filter (fun y => key y.2 == c) = L.filter (fun y => key y.2 == c) ++ if key x.2 = c then [x] else [] := fun c => by
    rw [List.filter_append]
    congr 1
    by_cases h : key x.2 = c
    · rw [if_pos h, List.filter_cons_of_pos (by simpa using h), List.filter_nil]
    · rw [if_neg h, List.filter_cons_of_neg (by simpa using h), List.filter_nil]
  by_cases h : key x.2 ∈ L.map (fun y => key y.2)
  · rw [if_pos h]
    show _ = if true = true then _ else _
    rw [if_pos rfl]
    unfold grp
    rw [List.map_append, List.eraseDups_append]
    have e : ([x].map fun y => key y.2).removeAll (L.map fun y => key y.2) = [] := by
      unfold List.removeAll
      simp only [List.map_cons, List.map_nil]
      rw [List.filter_cons_of_neg, List.filter_nil]
      simpa using h
    rw [e]
    simp only [List.eraseDups_nil, List.append_nil, List.map_map]
    refine List.map_congr_left fun c hc => ?_
    show (c, ((L ++ [x]).filter fun y => key y.2 == c).map (·.1)) = if c = key x.2 then (c, _ ++ [x.1]) else (c, _)
    rw [flt]
    by_cases hcx : c = key x.2
    · rw [if_pos hcx, if_pos hcx.symm, List.map_append]
      rfl
    · rw [if_neg hcx, if_neg (Ne.symm hcx), List.append_nil]
  · rw [if_neg h]
    show _ = if false = true then _ else _
    rw [if_neg (by decide)]
    unfold grp
    rw [List.map_append, List.eraseDups_append]
    have e : ([x].map fun y => key y.2).removeAll (L.map fun y => key y.2) = [key x.2] := by
      unfold List.removeAll
      simp only [List.map_cons, List.map_nil]
      rw [List.filter_cons_of_pos, List.filter_nil]
      simpa using h
    rw [e]
    have e2 : ([key x.2] : List Bytes).eraseDups = [key x.2] := rfl
    rw [e2, List.map_append]
    congr 1
    · refine List.map_congr_left fun c hc => ?_
      have hc2 : c ∈ L.map (fun y => key y.2) := List.mem_eraseDups.mp hc
      have hne : ¬ key x.2 = c := fun z => h (z ▸ hc2)
      rw [flt, if_neg hne, List.append_nil]
    · show [(key x.2, _)] = _
      have e3 : L.filter (fun y => key y.2 == key x.2) = [] := by
        refine List.filter_eq_nil_iff.mpr fun y hy q => h ?_
        exact List.mem_map.mpr ⟨y, hy, eq_of_beq q⟩
      rw [flt, if_pos rfl, e3]
      rfl
theorem gput_len (G : Grp) (b : Bytes) (n : Nat) : (gput G b n).length ≤ G.length + 1 := by
  unfold gput
  split
  · rw [List.length_map]
    omega
  · rw [List.length_append]
    exact Nat.le_refl _
theorem grp_le {α : Type} {key : α → Bytes} {L : List (Nat × α)} {z : Bytes × List Nat} (h : z ∈ grp key L) : z.2.length ≤ L.length := by
  unfold grp at h
  obtain ⟨b, _, rfl⟩ := List.mem_map.mp h
  show (List.map _ _).length ≤ _
  rw [List.length_map]
  exact List.length_filter_le _ _
/-! ### known pieces, numbered -/
abbrev Pie := Sx05.Piece
def num (k : List Pie) : List (Nat × Pie) := k.zipIdx.map fun x => (x.2, x.1)
theorem num_len (k : List Pie) : (num k).length = k.length := by
  unfold num
  rw [List.length_map, List.length_zipIdx]
theorem num_get {k : List Pie} {i : Nat} : (num k)[i]? = k[i]?.map fun p => (i, p) := by
  unfold num
  rw [List.getElem?_map, List.getElem?_zipIdx]
  cases k[i]? with
  | none => rfl
  | some p => simp
theorem num_mem {k : List Pie} {x : Nat × Pie} (h : x ∈ num k) : x.2 ∈ k := by
  unfold num at h
  obtain ⟨y, hy, rfl⟩ := List.mem_map.mp h
  exact List.fst_mem_of_mem_zipIdx hy
theorem numbersOf_is (l : List Sx05.Item) (f : Pie → Bool) : Sx05.numbersOf l f = ((num (Sx05.known l)).filter fun x => f x.2).map (·.1) := by
  unfold Sx05.numbersOf num
  rw [List.filter_map, List.map_map]
  rfl
def gForm (L : List (Nat × Pie)) : Grp := grp Sx05.Piece.form L
def gGloss (L : List (Nat × Pie)) : Grp := grp Sx05.Piece.gloss L
/-! ### forms of several glosses -/
theorem dups_two {l : List Bytes} : 2 ≤ l.eraseDups.length ↔ (l.any fun g => !(g == l.headD [])) = true := by
  cases l with
  | nil => simp
  | cons a l =>
    rw [List.eraseDups_cons, List.length_cons]
    simp only [List.headD_cons, List.any_cons, beq_self_eq_true, Bool.not_true, Bool.false_or]
    constructor
    · intro h
      have h1 : l.filter (fun b => !b == a) ≠ [] := fun z => by
        rw [z] at h
        simp at h
      obtain ⟨g, hg⟩ := List.exists_mem_of_ne_nil _ h1
      obtain ⟨g1, g2⟩ := List.mem_filter.mp hg
      exact List.any_eq_true.mpr ⟨g, g1, g2⟩
    · intro h
      obtain ⟨g, g1, g2⟩ := List.any_eq_true.mp h
      have hm : g ∈ l.filter (fun b => !b == a) := List.mem_filter.mpr ⟨g1, g2⟩
      have h2 : g ∈ (l.filter (fun b => !b == a)).eraseDups := List.mem_eraseDups.mpr hm
      have := List.length_pos_of_mem h2
      omega
theorem num_snd (k : List Pie) : (num k).map (·.2) = k := by
  unfold num
  rw [List.map_map]
  exact List.zipIdx_map_fst 0 k
theorem num_filter (k : List Pie) (f : Pie → Bool) : ((num k).filter fun x => f x.2).map (·.2) = k.filter f := by
  conv => rhs; rw [← num_snd k]
  rw [List.filter_map]
  rfl
/-- whether a form has several glosses, by the numbers of its pieces -/
theorem unlike_is (l : List Sx05.Item) : Sx05.unlike l = ((gForm (num (Sx05.known l))).map (·.1)).filter fun b => ((((num (Sx05.known l)).filter fun x => x.2.form == b).map fun x => x.2.gloss).any fun g => !(g == ((((num (Sx05.known l)).filter fun x => x.2.form == b).map fun x => x.2.gloss).headD []))) := by
  unfold Sx05.unlike gForm grp
  have e1 : ((num (Sx05.known l)).map fun x => x.2.form) = (Sx05.known l).map fun p => p.form := by
    conv => rhs; rw [← num_snd (Sx05.known l)]
    rw [List.map_map]
    rfl
  rw [e1, List.map_map]
  have e2 : ((fun x : Bytes × List Nat => x.1) ∘ fun b => (b, ((num (Sx05.known l)).filter fun x => x.2.form == b).map (·.1))) = id := rfl
  rw [e2, List.map_id]
  refine List.filter_congr fun b _ => ?_
  have e3 : (((num (Sx05.known l)).filter fun x => x.2.form == b).map fun x => x.2.gloss) = ((Sx05.known l).filter fun p => p.form == b).map fun p => p.gloss := by
    rw [← num_filter (Sx05.known l) fun p => p.form == b, List.map_map]
    rfl
  rw [e3]
  rw [Bool.eq_iff_iff, decide_eq_true_iff]
  exact dups_two
end G

end

section
set_option Elab.async false
set_option linter.all false
set_option maxHeartbeats 2000000
namespace G
/-! ### taking apart: tables -/
/-- a piece may stand at i -/
def cnd (i : Nat) (p : Pie) : Bool := decide (p.seam = 0) == decide (i = 0)
def slc (b : Bytes) (i e : Nat) : Bytes := (b.take e).drop i
/-- numbers of the pieces that make the bytes from i to e -/
def nb (k : List Pie) (b : Bytes) (i e : Nat) : List Nat := ((num k).filter fun x => cnd i x.2 && (x.2.form == slc b i e)).map (·.1)
/-- in how many ways it goes on -/
def wy (k : List Pie) (b : Bytes) (i : Nat) : Nat := if i = 0 then Sx05.ways k b else ow k b i
theorem sum_one {f : Nat → Nat} {j0 : Nat} : ∀ t, j0 < t → (∀ j, j < t → j ≠ j0 → f j = 0) → ((List.range t).map f).sum = f j0
  | 0, h, _ => by omega
  | t + 1, h, h0 => by
    rw [List.range_succ, List.map_append, List.sum_append]
    simp only [List.map_cons, List.map_nil, List.sum_cons, List.sum_nil, Nat.add_zero]
    by_cases e : j0 = t
    · have z : ((List.range t).map f).sum = 0 := by
        refine List.sum_eq_zero_iff_forall_eq_nat.mpr fun x hx => ?_
        obtain ⟨j, hj, rfl⟩ := List.mem_map.mp hx
        have := List.mem_range.mp hj
        exact h0 j (by omega) (by omega)
      rw [z, e, Nat.zero_add]
    · rw [sum_one t (by omega) fun j hj hne => h0 j (by omega) hne, h0 t (by omega) (by omega), Nat.add_zero]
theorem sum_none {f : Nat → Nat} {t : Nat} (h0 : ∀ j, j < t → f j = 0) : ((List.range t).map f).sum = 0 := by
  refine List.sum_eq_zero_iff_forall_eq_nat.mpr fun x hx => ?_
  obtain ⟨j, hj, rfl⟩ := List.mem_map.mp hx
  exact h0 j (List.mem_range.mp hj)
theorem sum_add {f g : Nat → Nat} (l : List Nat) : (l.map fun j => f j + g j).sum = (l.map f).sum + (l.map g).sum := by
  induction l with
  | nil => rfl
  | cons a l ih =>
    simp only [List.map_cons, List.sum_cons, ih]
    omega
theorem slc_pre {b f : Bytes} {i : Nat} (h : f.isPrefixOf (b.drop i) = true) : f = slc b i (i + f.length) := by
  obtain ⟨r, hr⟩ := List.isPrefixOf_iff_prefix.mp h
  unfold slc
  rw [List.drop_take, ← hr, show i + f.length - i = f.length by omega, List.take_left']
  rfl
theorem slc_len {b : Bytes} {i e : Nat} (h1 : i ≤ e) (h2 : e ≤ b.length) : (slc b i e).length = e - i := by
  unfold slc
  rw [List.length_drop, List.length_take]
  omega
theorem pre_slc {b : Bytes} {i e : Nat} : (slc b i e).isPrefixOf (b.drop i) = true := by
  unfold slc
  rw [List.drop_take]
  exact List.isPrefixOf_iff_prefix.mpr (List.take_prefix _ _)
/-- prefix, and where it ends -/
theorem form_iff {b f : Bytes} {i e : Nat} (h1 : i ≤ e) (h2 : e ≤ b.length) : f = slc b i e ↔ f.isPrefixOf (b.drop i) = true ∧ i + f.length = e := by
  constructor
  · intro h
    have hl : f.length = e - i := by rw [h, slc_len h1 h2]
    exact ⟨by rw [h]; exact pre_slc, by omega⟩
  · rintro ⟨g1, g2⟩
    rw [← g2]
    exact slc_pre g1
theorem one_piece {b : Bytes} {i : Nat} {p : Pie} {W : Nat → Nat} (hp : p.form ≠ []) (hi : i ≤ b.length) :
    ((List.range (b.length - i)).map fun j => (if (cnd i p && (p.form == slc b i (i + 1 + j))) = true then 1 else 0) * W (i + 1 + j)).sum = if (cnd i p && p.form.isPrefixOf (b.drop i)) = true then W (i + p.form.length) else 0 := by
  have hl : 0 < p.form.length := List.length_pos_iff.mpr hp
  by_cases hc : (cnd i p && p.form.isPrefixOf (b.drop i)) = true
  · rw [if_pos hc]
    obtain ⟨c1, c2⟩ := Bool.and_eq_true_iff.mp hc
    have hpl := pre_len c2 hi
    rw [sum_one (j0 := p.form.length - 1) _ (by omega)]
    · have e : i + 1 + (p.form.length - 1) = i + p.form.length := by omega
      rw [e, if_pos, Nat.one_mul]
      rw [c1, Bool.true_and]
      exact beq_iff_eq.mpr (slc_pre c2)
    · intro j hj hne
      rw [if_neg, Nat.zero_mul]
      intro z
      obtain ⟨_, z2⟩ := Bool.and_eq_true_iff.mp z
      have z3 := beq_iff_eq.mp z2
      have z4 := congrArg List.length z3
      rw [slc_len (by omega) (by omega)] at z4
      omega
  · rw [if_neg hc]
    refine sum_none fun j hj => ?_
    rw [if_neg, Nat.zero_mul]
    intro z
    obtain ⟨z1, z2⟩ := Bool.and_eq_true_iff.mp z
    refine hc (Bool.and_eq_true_iff.mpr ⟨z1, ?_⟩)
    rw [beq_iff_eq.mp z2]
    exact pre_slc
theorem many_pieces {b : Bytes} {i : Nat} {W : Nat → Nat} (hi : i ≤ b.length) : ∀ k : List Pie, (∀ p ∈ k, p.form ≠ []) →
    ((List.range (b.length - i)).map fun j => (k.filter fun p => cnd i p && (p.form == slc b i (i + 1 + j))).length * W (i + 1 + j)).sum = (k.map fun p => if (cnd i p && p.form.isPrefixOf (b.drop i)) = true then W (i + p.form.length) else 0).sum
  | [], _ => by
    rw [List.map_nil]
    exact sum_none fun j _ => by rw [List.filter_nil]; exact Nat.zero_mul _
  | p :: k, hk => by
    have ih := many_pieces (W := W) hi k fun q hq => hk q (List.mem_cons_of_mem _ hq)
    rw [List.map_cons, List.sum_cons, ← ih, ← one_piece (hk p List.mem_cons_self) hi, ← sum_add]
    congr 1
    refine List.map_congr_left fun j _ => ?_
    rw [← Nat.add_mul]
    congr 1
    rw [List.filter_cons]
    split
    · rw [List.length_cons]
      omega
    · omega
theorem nb_len (k : List Pie) (b : Bytes) (i e : Nat) : (nb k b i e).length = (k.filter fun p => cnd i p && (p.form == slc b i e)).length := by
  unfold nb
  rw [List.length_map, ← num_filter k fun p => cnd i p && (p.form == slc b i e), List.length_map]
theorem wy_pos {k : List Pie} {b : Bytes} {i : Nat} (h : 0 < i) : wy k b i = ow k b i := if_neg (by omega)
theorem wy_end {k : List Pie} {b : Bytes} (h : 0 < b.length) : wy k b b.length = 1 := by rw [wy_pos h, ow_end]
/-- the table's step -/
theorem wy_sum {k : List Pie} (hk : ∀ p ∈ k, p.form ≠ []) {b : Bytes} {i : Nat} (hi : i < b.length) : wy k b i = ((List.range (b.length - i)).map fun j => (nb k b i (i + 1 + j)).length * wy k b (i + 1 + j)).sum := by
  have e1 : ((List.range (b.length - i)).map fun j => (nb k b i (i + 1 + j)).length * wy k b (i + 1 + j)) = ((List.range (b.length - i)).map fun j => (k.filter fun p => cnd i p && (p.form == slc b i (i + 1 + j))).length * ow k b (i + 1 + j)) := by
    refine List.map_congr_left fun j _ => ?_
    rw [nb_len, wy_pos (by omega)]
  rw [e1, many_pieces (W := ow k b) (Nat.le_of_lt hi) k hk]
  by_cases h0 : i = 0
  · subst h0
    unfold wy Sx05.ways
    rw [if_pos rfl, if_neg (fun z => by rw [z] at hi; simp at hi)]
    congr 1
    refine List.map_congr_left fun p _ => ?_
    rw [Nat.zero_add, List.drop_zero]
    unfold cnd
    by_cases hs : p.seam = 0
    · simp only [hs, decide_true, beq_self_eq_true, Bool.true_and, true_and]
      rfl
    · simp [hs]
  · rw [wy_pos (by omega), ow_step hk hi]
    congr 1
    refine List.map_congr_left fun p _ => ?_
    unfold cnd
    by_cases hs : p.seam = 0
    · simp [hs, h0]
    · simp [hs, h0]
/-! ### what can come next -/
def live (k : List Pie) (b : Bytes) (i : Nat) (p : Pie) : Bool := cnd i p && (p.form.isPrefixOf (b.drop i) && decide (0 < wy k b (i + p.form.length)))
/-- the choices at i, by their numbers -/
def chs (k : List Pie) (b : Bytes) (i : Nat) : List (Nat × Nat) := ((num k).filter fun x => live k b i x.2).map fun x => (x.1, i + x.2.form.length)
theorem num_rise (k : List Pie) : (num k).Pairwise fun x y => x.1 < y.1 := by
  rw [List.pairwise_iff_getElem]
  intro i j hi hj hij
  have g : ∀ t (ht : t < (num k).length), ((num k)[t]).1 = t := fun t ht => by
    have z : (num k)[t]? = some (num k)[t] := List.getElem?_eq_getElem ht
    rw [num_get] at z
    cases hk : k[t]? with
    | none =>
      rw [hk] at z
      cases z
    | some p =>
      rw [hk] at z
      rw [← Option.some.inj z]
  rw [g i hi, g j hj]
  exact hij
theorem chs_rise (k : List Pie) (b : Bytes) (i : Nat) : (chs k b i).Pairwise fun x y => x.1 < y.1 := by
  unfold chs
  rw [List.pairwise_map]
  exact (num_rise k).filter _
theorem nb_rise (k : List Pie) (b : Bytes) (i e : Nat) : (nb k b i e).Pairwise (· < ·) := by
  unfold nb
  rw [List.pairwise_map]
  exact (num_rise k).filter _
theorem chs_mem {k : List Pie} (hk : ∀ p ∈ k, p.form ≠ []) {b : Bytes} {i : Nat} (hi : i ≤ b.length) {c : Nat × Nat} (h : c ∈ chs k b i) : i < c.2 ∧ c.2 ≤ b.length ∧ 0 < wy k b c.2 := by
  unfold chs at h
  obtain ⟨x, hx, rfl⟩ := List.mem_map.mp h
  obtain ⟨h1, h2⟩ := List.mem_filter.mp hx
  unfold live at h2
  simp only [Bool.and_eq_true, decide_eq_true_eq] at h2
  have hl : 0 < x.2.form.length := List.length_pos_iff.mpr (hk _ (num_mem h1))
  exact ⟨by show i < i + x.2.form.length; omega, pre_len h2.2.1 hi, h2.2.2⟩
theorem nb_of {k : List Pie} {b : Bytes} {i e : Nat} (h1 : i ≤ e) (h2 : e ≤ b.length) (hw : 0 < wy k b e) : nb k b i e = ((chs k b i).filter fun c => decide (c.2 = e)).map (·.1) := by
  unfold nb chs
  rw [List.filter_map, List.map_map, List.filter_filter]
  have e : ((num k).filter fun x => cnd i x.2 && (x.2.form == slc b i e)) = (num k).filter fun x => (((fun c : Nat × Nat => decide (c.2 = e)) ∘ fun x : Nat × Pie => (x.1, i + x.2.form.length)) x && live k b i x.2) := by
    refine List.filter_congr fun x _ => ?_
    rw [Bool.eq_iff_iff]
    unfold live
    simp only [Bool.and_eq_true, Function.comp, decide_eq_true_eq, beq_iff_eq]
    rw [form_iff h1 h2]
    constructor
    · rintro ⟨g1, g2, g3⟩
      exact ⟨g3, g1, g2, by rw [g3]; exact hw⟩
    · rintro ⟨g1, g2, g3, g4⟩
      exact ⟨g2, g3, g1⟩
  rw [e]
  rfl
/-- the choices as they are gathered, by their ends -/
def gath (k : List Pie) (b : Bytes) (i m : Nat) : Nat → List (Nat × Nat)
  | 0 => []
  | t + 1 => gath k b i m t ++ if 0 < wy k b (i + 1 + t) then ((nb k b i (i + 1 + t)).take m).map fun n => (n, i + 1 + t) else []
theorem gath_mem {k : List Pie} {b : Bytes} {i m : Nat} {c : Nat × Nat} : ∀ {t : Nat}, c ∈ gath k b i m t ↔ ∃ j, j < t ∧ 0 < wy k b (i + 1 + j) ∧ c.2 = i + 1 + j ∧ c.1 ∈ (nb k b i (i + 1 + j)).take m
  | 0 => by
    constructor
    · intro h
      cases h
    · rintro ⟨j, h, _⟩
      omega
  | t + 1 => by
    have ih := gath_mem (k := k) (b := b) (i := i) (m := m) (c := c) (t := t)
    show c ∈ gath k b i m t ++ _ ↔ _
    rw [List.mem_append, ih]
    constructor
    · rintro (⟨j, h1, h2⟩ | h)
      · exact ⟨j, by omega, h2⟩
      · split at h
        · rename_i hw
          obtain ⟨n, hn, rfl⟩ := List.mem_map.mp h
          exact ⟨t, by omega, hw, rfl, hn⟩
        · cases h
    · rintro ⟨j, h1, h2, h3, h4⟩
      by_cases e : j = t
      · subst e
        right
        rw [if_pos h2]
        exact List.mem_map.mpr ⟨c.1, h4, by rw [← h3]⟩
      · exact .inl ⟨j, by omega, h2, h3, h4⟩
theorem gath_nodup {k : List Pie} {b : Bytes} {i m : Nat} : ∀ t, (gath k b i m t).Nodup
  | 0 => List.nodup_nil
  | t + 1 => by
    show (gath k b i m t ++ _).Nodup
    refine List.nodup_append.mpr ⟨gath_nodup t, ?_, ?_⟩
    · split
      · have z : ((nb k b i (i + 1 + t)).take m).Pairwise (· < ·) := (nb_rise k b i _).sublist (List.take_sublist _ _)
        unfold List.Nodup
        rw [List.pairwise_map]
        exact z.imp fun {x y} h q => by
          have := congrArg Prod.fst q
          simp only at this
          omega
      · exact List.nodup_nil
    · intro x hx y hy q
      subst q
      obtain ⟨j, h1, _, h3, _⟩ := gath_mem.mp hx
      split at hy
      · obtain ⟨n, _, rfl⟩ := List.mem_map.mp hy
        simp only at h3
        omega
      · cases hy
theorem gath_len {k : List Pie} {b : Bytes} {i m : Nat} : ∀ t, (gath k b i m t).length ≤ t * m
  | 0 => by simp [gath]
  | t + 1 => by
    have ih := gath_len (k := k) (b := b) (i := i) (m := m) t
    show (gath k b i m t ++ _).length ≤ _
    rw [List.length_append, Nat.add_mul, Nat.one_mul]
    have : (if 0 < wy k b (i + 1 + t) then ((nb k b i (i + 1 + t)).take m).map fun n => (n, i + 1 + t) else []).length ≤ m := by
      split
      · rw [List.length_map, List.length_take]
        omega
      · exact Nat.zero_le _
    omega
theorem take_filter {α : Type} {p : α → Bool} {x : α} : ∀ {l : List α} {m : Nat}, x ∈ l.take m → p x = true → x ∈ (l.filter p).take m
  | [], m, h, _ => by simp at h
  | a :: l, 0, h, _ => by simp at h
  | a :: l, m + 1, h, hp => by
    rw [List.take_succ_cons] at h
    rcases List.mem_cons.mp h with rfl | h
    · rw [List.filter_cons_of_pos hp, List.take_succ_cons]
      exact List.mem_cons_self
    · have ih := take_filter (p := p) h hp
      rw [List.filter_cons]
      split
      · rw [List.take_succ_cons]
        exact List.mem_cons_of_mem _ ih
      · exact (List.take_subset_take_left _ (Nat.le_succ m)) ih
/-- lists that rise and have the same members are one -/
theorem rise_uniq {α : Type} {f : α → Nat} : ∀ {l m : List α}, l.Pairwise (fun x y => f x < f y) → m.Pairwise (fun x y => f x < f y) → (∀ x, x ∈ l ↔ x ∈ m) → l = m
  | [], [], _, _, _ => rfl
  | [], b :: m, _, _, h => absurd ((h b).mpr List.mem_cons_self) (by simp)
  | a :: l, [], _, _, h => absurd ((h a).mp List.mem_cons_self) (by simp)
  | a :: l, b :: m, hl, hm, h => by
    obtain ⟨l1, l2⟩ := List.pairwise_cons.mp hl
    obtain ⟨m1, m2⟩ := List.pairwise_cons.mp hm
    have e : a = b := by
      rcases List.mem_cons.mp ((h a).mp List.mem_cons_self) with e | h1
      · exact e
      · rcases List.mem_cons.mp ((h b).mpr List.mem_cons_self) with e | h2
        · exact e.symm
        · have := l1 b h2
          have := m1 a h1
          omega
    subst e
    congr 1
    refine rise_uniq l2 m2 fun x => ⟨fun hx => ?_, fun hx => ?_⟩
    · rcases List.mem_cons.mp ((h x).mp (List.mem_cons_of_mem _ hx)) with e | h1
      · have := l1 x hx
        rw [e] at this
        omega
      · exact h1
    · rcases List.mem_cons.mp ((h x).mpr (List.mem_cons_of_mem _ hx)) with e | h1
      · have := m1 x hx
        rw [e] at this
        omega
      · exact h1
theorem rise_inj {α : Type} {f : α → Nat} {l : List α} (h : l.Pairwise fun x y => f x < f y) {x y : α} (hx : x ∈ l) (hy : y ∈ l) (e : f x = f y) : x = y := by
  obtain ⟨i, hi, rfl⟩ := List.mem_iff_getElem.mp hx
  obtain ⟨j, hj, rfl⟩ := List.mem_iff_getElem.mp hy
  rw [List.pairwise_iff_getElem] at h
  rcases Nat.lt_trichotomy i j with g | g | g
  · have := h i j hi hj g
    omega
  · subst g
    rfl
  · have := h j i hj hi g
    omega
/-- sorted, the first m of what is gathered are the first m choices -/
theorem sorted_is {k : List Pie} (hk : ∀ p ∈ k, p.form ≠ []) {b : Bytes} {i m : Nat} (hi : i < b.length) {Y : List (Nat × Nat)} (hp : Y.Perm (gath k b i m (b.length - i)))
    (hs : Y.Pairwise fun x y => ¬ (y.1 < x.1 ∨ (y.1 = x.1 ∧ y.2 < x.2))) : Y.take m = (chs k b i).take m := by
  have sub : ∀ c ∈ Y, c ∈ chs k b i := fun c hc => by
    obtain ⟨j, h1, h2, h3, h4⟩ := gath_mem.mp (hp.mem_iff.mp hc)
    have h5 := List.mem_of_mem_take h4
    rw [nb_of (by omega) (by omega) h2] at h5
    obtain ⟨d, hd, hd2⟩ := List.mem_map.mp h5
    obtain ⟨hd3, hd4⟩ := List.mem_filter.mp hd
    have e : d = c := Prod.ext hd2 (by rw [of_decide_eq_true hd4, h3])
    rw [← e]
    exact hd3
  have ndY : Y.Nodup := hp.nodup_iff.mpr (gath_nodup _)
  have rise := chs_rise k b i
  have rY : Y.Pairwise fun x y => x.1 < y.1 := by
    refine List.Pairwise.imp_of_mem ?_ (List.Pairwise.and hs ndY)
    rintro x y hx hy ⟨h1, h2⟩
    rcases Nat.lt_trichotomy x.1 y.1 with g | g | g
    · exact g
    · exact absurd (rise_inj rise (sub x hx) (sub y hy) g) h2
    · exact absurd (.inl g) h1
  have eY : Y = (chs k b i).filter fun c => decide (c ∈ Y) := by
    refine rise_uniq rY (rise.filter _) fun x => ?_
    rw [List.mem_filter, decide_eq_true_iff]
    exact ⟨fun h => ⟨sub x h, h⟩, fun h => h.2⟩
  have inn : ∀ c ∈ (chs k b i).take m, c ∈ Y := fun c hc => by
    have hc1 := List.mem_of_mem_take hc
    obtain ⟨g1, g2, g3⟩ := chs_mem hk (Nat.le_of_lt hi) hc1
    refine hp.mem_iff.mpr (gath_mem.mpr ⟨c.2 - (i + 1), by omega, ?_⟩)
    have e : i + 1 + (c.2 - (i + 1)) = c.2 := by omega
    rw [e]
    refine ⟨g3, rfl, ?_⟩
    rw [nb_of (by omega) g2 g3, ← List.map_take]
    exact List.mem_map.mpr ⟨c, take_filter hc (by simp), rfl⟩
  conv => lhs; rw [eY]
  have e2 : (chs k b i).filter (fun c => decide (c ∈ Y)) = (chs k b i).take m ++ ((chs k b i).drop m).filter fun c => decide (c ∈ Y) := by
    conv => lhs; rw [← List.take_append_drop m (chs k b i)]
    rw [List.filter_append]
    congr 1
    exact List.filter_eq_self.mpr fun c hc => decide_eq_true (inn c hc)
  rw [e2]
  by_cases hl : m ≤ (chs k b i).length
  · rw [List.take_append_of_le_length (by rw [List.length_take]; omega), List.take_take, Nat.min_self]
  · rw [List.drop_eq_nil_of_le (by omega), List.filter_nil, List.append_nil, List.take_take, Nat.min_self]
/-! ### rows grown -/
abbrev Bg := List (List Nat × Nat)
def grow1 (n : Nat) (C : Nat → List (Nat × Nat)) (r : List Nat × Nat) : Bg := if r.2 = n then [r] else (C r.2).map fun c => (r.1 ++ [c.1], c.2)
def growL (n : Nat) (C : Nat → List (Nat × Nat)) (rows : Bg) : Bg := rows.flatMap (grow1 n C)
theorem flat_take {α β : Type} {g : α → List β} : ∀ {L : List α} {q m : Nat}, q ≤ m → (∀ x ∈ L, g x ≠ []) → (L.flatMap g).take q = ((L.take m).flatMap g).take q
  | [], q, m, _, _ => by rw [List.take_nil]
  | x :: L, q, 0, h, _ => by
    have : q = 0 := by omega
    subst this
    rw [List.take_zero, List.take_zero]
  | x :: L, q, m + 1, h, hne => by
    rw [List.take_succ_cons, List.flatMap_cons, List.flatMap_cons, List.take_append, List.take_append]
    congr 1
    have hl : 0 < (g x).length := List.length_pos_iff.mpr (hne x List.mem_cons_self)
    exact flat_take (by omega) fun y hy => hne y (List.mem_cons_of_mem _ hy)
theorem flat_take2 {α β : Type} {g h : α → List β} {m : Nat} : ∀ {L : List α} {q : Nat}, q ≤ m → (∀ x ∈ L, h x = (g x).take m) → (L.flatMap h).take q = (L.flatMap g).take q
  | [], q, _, _ => rfl
  | x :: L, q, hq, he => by
    rw [List.flatMap_cons, List.flatMap_cons, List.take_append, List.take_append, he x List.mem_cons_self, List.take_take, Nat.min_eq_left hq, List.length_take]
    congr 1
    by_cases hl : (g x).length ≤ m
    · rw [Nat.min_eq_right hl]
      exact flat_take2 (by omega) fun y hy => he y (List.mem_cons_of_mem _ hy)
    · rw [Nat.min_eq_left (by omega), show q - m = 0 by omega, show q - (g x).length = 0 by omega, List.take_zero, List.take_zero]
theorem grow_take {n m : Nat} (hm : 0 < m) {C C' : Nat → List (Nat × Nat)} {rows : Bg} (hne : ∀ r ∈ rows, grow1 n C r ≠ []) (hC : ∀ r ∈ rows, r.2 ≠ n → C' r.2 = (C r.2).take m) : (growL n C' (rows.take m)).take m = (growL n C rows).take m := by
  unfold growL
  rw [flat_take (Nat.le_refl m) hne]
  refine flat_take2 (Nat.le_refl m) fun r hr => ?_
  have hr := List.mem_of_mem_take hr
  unfold grow1
  by_cases h : r.2 = n
  · rw [if_pos h, if_pos h, List.take_of_length_le (by show 1 ≤ m; omega)]
  · rw [if_neg h, if_neg h, hC r hr h, List.map_take]
/-- the rows begun, after t turns, m at the most -/
def bgn (n m : Nat) (C' : Nat → List (Nat × Nat)) : Nat → Bg
  | 0 => [([], 0)]
  | t + 1 => (growL n C' (bgn n m C' t)).take m
def fullB (n : Nat) (C : Nat → List (Nat × Nat)) : Nat → Bg
  | 0 => [([], 0)]
  | t + 1 => growL n C (fullB n C t)
/-- what makes the rest from i on -/
def rest (k : List Pie) (b : Bytes) (i : Nat) : List (List Nat) := if i = 0 then fullRows k b else goOn k b (b.length + 1) i
theorem rest_len {k : List Pie} (hk : ∀ p ∈ k, p.form ≠ []) {b : Bytes} {i : Nat} (hi : i ≤ b.length) : (rest k b i).length = wy k b i := by
  unfold rest wy
  by_cases h : i = 0
  · rw [if_pos h, if_pos h, ways_is hk]
  · rw [if_neg h, if_neg h, goOn_len hk _ _ hi (by omega)]
theorem flat_filter {α β : Type} (P : α → Bool) (F : α → List β) : ∀ L : List α, (L.filter P).flatMap F = L.flatMap fun x => if P x = true then F x else []
  | [] => rfl
  | x :: L => by
    rw [List.flatMap_cons, List.filter_cons]
    split
    · rw [List.flatMap_cons, flat_filter P F L]
    · rw [flat_filter P F L, List.nil_append]
theorem rest_step {k : List Pie} (hk : ∀ p ∈ k, p.form ≠ []) {b : Bytes} {i : Nat} (hi : i < b.length) : rest k b i = (chs k b i).flatMap fun c => (rest k b c.2).map fun r => c.1 :: r := by
  have key : rest k b i = k.zipIdx.flatMap fun x => if (cnd i x.1 && x.1.form.isPrefixOf (b.drop i)) = true then (rest k b (i + x.1.form.length)).map (fun r => x.2 :: r) else [] := by
    unfold rest
    by_cases h : i = 0
    · subst h
      rw [if_pos rfl]
      unfold fullRows
      rw [if_neg (fun z => by rw [z] at hi; simp at hi)]
      refine flat_ext fun x hx => ?_
      have hl : 0 < x.1.form.length := List.length_pos_iff.mpr (hk _ (List.fst_mem_of_mem_zipIdx hx))
      have e9 : (if 0 + x.1.form.length = 0 then (k.zipIdx.flatMap fun x => if x.1.seam = 0 ∧ x.1.form.isPrefixOf b = true then (goOn k b (b.length + 1) x.1.form.length).map fun r => x.2 :: r else []) else goOn k b (b.length + 1) (0 + x.1.form.length)) = goOn k b (b.length + 1) x.1.form.length := by
        rw [if_neg (by omega), Nat.zero_add]
      have e10 : (if b = [] then [] else (k.zipIdx.flatMap fun x => if x.1.seam = 0 ∧ x.1.form.isPrefixOf b = true then (goOn k b (b.length + 1) x.1.form.length).map fun r => x.2 :: r else [])) = (k.zipIdx.flatMap fun x => if x.1.seam = 0 ∧ x.1.form.isPrefixOf b = true then (goOn k b (b.length + 1) x.1.form.length).map fun r => x.2 :: r else []) := if_neg (fun z => by rw [z] at hi; simp at hi)
      rw [List.drop_zero]
      unfold cnd
      by_cases hs : x.1.seam = 0
      · simp only [hs, decide_true, beq_self_eq_true, Bool.true_and, true_and]
        simp only [e9, e10]
      · simp [hs]
    · rw [if_neg h]
      show (if i = b.length then [[]] else _ : List (List Nat)) = _
      rw [if_neg (by omega)]
      refine flat_ext fun x hx => ?_
      have hl : 0 < x.1.form.length := List.length_pos_iff.mpr (hk _ (List.fst_mem_of_mem_zipIdx hx))
      unfold cnd
      by_cases hs : x.1.seam = 0
      · simp [hs, h]
      · by_cases hp : x.1.form.isPrefixOf (b.drop i) = true
        · have hpl := pre_len hp (Nat.le_of_lt hi)
          simp only [hs, h, hp, ne_eq, not_false_eq_true, true_and, decide_false, beq_self_eq_true, Bool.true_and, if_true]
          rw [if_neg (by omega), goOn_fuel hk b.length (b.length + 1) _ hpl (by omega) (by omega)]
        · simp [hp]
  rw [key]
  unfold chs num
  rw [List.filter_map, List.map_map, List.flatMap_map, flat_filter]
  refine flat_ext fun x hx => ?_
  show _ = if live k b i x.1 = true then (rest k b (i + x.1.form.length)).map (fun r => x.2 :: r) else []
  unfold live
  by_cases h1 : (cnd i x.1 && x.1.form.isPrefixOf (b.drop i)) = true
  · rw [if_pos h1]
    obtain ⟨h2, h3⟩ := Bool.and_eq_true_iff.mp h1
    have hpl := pre_len h3 (Nat.le_of_lt hi)
    rw [h2, h3, Bool.true_and, Bool.true_and]
    by_cases h4 : 0 < wy k b (i + x.1.form.length)
    · rw [if_pos (decide_eq_true h4)]
    · rw [if_neg (by simpa using h4)]
      have z : (rest k b (i + x.1.form.length)).length = 0 := by
        rw [rest_len hk hpl]
        omega
      rw [List.length_eq_zero_iff.mp z]
      rfl
  · rw [if_neg h1, if_neg]
    intro z
    simp only [Bool.and_eq_true] at z
    exact h1 (Bool.and_eq_true_iff.mpr ⟨z.1, z.2.1⟩)
theorem rest_end {k : List Pie} {b : Bytes} (h : 0 < b.length) : rest k b b.length = [[]] := by
  unfold rest
  rw [if_neg (by omega)]
  show (if b.length = b.length then [[]] else _ : List (List Nat)) = [[]]
  rw [if_pos rfl]
def compl (k : List Pie) (b : Bytes) (rows : Bg) : List (List Nat) := rows.flatMap fun r => (rest k b r.2).map fun z => r.1 ++ z
theorem compl_grow {k : List Pie} (hk : ∀ p ∈ k, p.form ≠ []) {b : Bytes} : ∀ rows : Bg, (∀ r ∈ rows, r.2 ≤ b.length) → compl k b (growL b.length (chs k b) rows) = compl k b rows
  | [], _ => rfl
  | r :: rows, h => by
    have ih := compl_grow hk rows fun x hx => h x (List.mem_cons_of_mem _ hx)
    unfold compl growL at ih ⊢
    rw [List.flatMap_cons, List.flatMap_append, List.flatMap_cons, ih]
    congr 1
    unfold grow1
    have hr := h r List.mem_cons_self
    by_cases e : r.2 = b.length
    · rw [if_pos e, List.flatMap_cons, List.flatMap_nil, List.append_nil]
    · rw [if_neg e, List.flatMap_map, rest_step hk (i := r.2) (by omega), List.map_flatMap]
      refine flat_ext fun c hc => ?_
      rw [List.map_map]
      refine List.map_congr_left fun z _ => ?_
      show (r.1 ++ [c.1]) ++ z = r.1 ++ (c.1 :: z)
      rw [List.append_assoc]
      rfl
/-- what is true of a row after t turns -/
def Bgd (k : List Pie) (b : Bytes) (t : Nat) (r : List Nat × Nat) : Prop := r.2 ≤ b.length ∧ (t ≤ r.2 ∨ r.2 = b.length) ∧ 0 < wy k b r.2
theorem full_ok {k : List Pie} (hk : ∀ p ∈ k, p.form ≠ []) {b : Bytes} (h0 : 0 < wy k b 0) : ∀ t, ∀ r ∈ fullB b.length (chs k b) t, Bgd k b t r
  | 0, r, hr => by
    have hr : r ∈ [(([] : List Nat), 0)] := hr
    rw [List.mem_singleton.mp hr]
    exact ⟨Nat.zero_le _, .inl (Nat.le_refl _), h0⟩
  | t + 1, r, hr => by
    have hr : r ∈ growL b.length (chs k b) (fullB b.length (chs k b) t) := hr
    unfold growL at hr
    obtain ⟨x, hx, hr⟩ := List.mem_flatMap.mp hr
    obtain ⟨x1, x2, x3⟩ := full_ok hk h0 t x hx
    unfold grow1 at hr
    by_cases e : x.2 = b.length
    · rw [if_pos e] at hr
      rw [List.mem_singleton.mp hr]
      exact ⟨x1, .inr e, x3⟩
    · rw [if_neg e] at hr
      obtain ⟨c, hc, rfl⟩ := List.mem_map.mp hr
      obtain ⟨c1, c2, c3⟩ := chs_mem hk x1 hc
      exact ⟨c2, .inl (by show t + 1 ≤ c.2; omega), c3⟩
theorem grow_ne {k : List Pie} (hk : ∀ p ∈ k, p.form ≠ []) {b : Bytes} {r : List Nat × Nat} (h1 : r.2 ≤ b.length) (h2 : 0 < wy k b r.2) : grow1 b.length (chs k b) r ≠ [] := by
  unfold grow1
  by_cases e : r.2 = b.length
  · rw [if_pos e]
    simp
  · rw [if_neg e]
    intro z
    have z1 := List.map_eq_nil_iff.mp z
    have z2 := rest_step hk (k := k) (b := b) (i := r.2) (by omega)
    rw [z1] at z2
    have z3 := rest_len hk h1
    rw [z2] at z3
    simp at z3
    omega
theorem bgn_is {k : List Pie} (hk : ∀ p ∈ k, p.form ≠ []) {b : Bytes} (h0 : 0 < wy k b 0) {m : Nat} (hm : 0 < m) {C' : Nat → List (Nat × Nat)} (hC : ∀ i, i < b.length → C' i = (chs k b i).take m) : ∀ t, bgn b.length m C' t = (fullB b.length (chs k b) t).take m
  | 0 => by
    show [(([] : List Nat), 0)] = [(([] : List Nat), 0)].take m
    rw [List.take_of_length_le (by show 1 ≤ m; omega)]
  | t + 1 => by
    show (growL b.length C' (bgn b.length m C' t)).take m = _
    rw [bgn_is hk h0 hm hC t]
    refine grow_take hm (fun r hr => ?_) fun r hr hn => ?_
    · obtain ⟨g1, _, g3⟩ := full_ok hk h0 t r hr
      exact grow_ne hk g1 g3
    · obtain ⟨g1, _, g3⟩ := full_ok hk h0 t r hr
      exact hC _ (by omega)
/-- **the rows that are told** -/
theorem rows_told {k : List Pie} (hk : ∀ p ∈ k, p.form ≠ []) {b : Bytes} (hb : 0 < b.length) (h0 : 0 < wy k b 0) {m : Nat} {C' : Nat → List (Nat × Nat)} (hC : ∀ i, i < b.length → C' i = (chs k b i).take m) : (bgn b.length m C' b.length).map (·.1) = (fullRows k b).take m := by
  by_cases hm : 0 < m
  · rw [bgn_is hk h0 hm hC]
    have e : ∀ t, compl k b (fullB b.length (chs k b) t) = fullRows k b := by
      intro t
      induction t with
      | zero =>
        show (rest k b 0).map (fun z => [] ++ z) ++ [] = _
        simp only [List.nil_append, List.append_nil, List.map_id']
        rfl
      | succ t ih =>
        show compl k b (growL b.length (chs k b) (fullB b.length (chs k b) t)) = _
        rw [compl_grow hk _ fun r hr => (full_ok hk h0 t r hr).1, ih]
    have e2 : compl k b (fullB b.length (chs k b) b.length) = (fullB b.length (chs k b) b.length).map (·.1) := by
      unfold compl
      rw [List.map_eq_flatMap]
      refine flat_ext fun r hr => ?_
      obtain ⟨g1, g2, _⟩ := full_ok hk h0 b.length r hr
      have : r.2 = b.length := by omega
      rw [this, rest_end hb]
      simp
    rw [List.map_take, ← e2, e]
  · have : m = 0 := by omega
    subst this
    rw [List.take_zero]
    obtain ⟨n, hn⟩ : ∃ n, b.length = n + 1 := ⟨b.length - 1, by omega⟩
    rw [hn]
    show List.map _ ((growL (n + 1) C' (bgn (n + 1) 0 C' n)).take 0) = []
    rw [List.take_zero]
    rfl
end G

end

section
set_option Elab.async false
set_option linter.all false
set_option maxHeartbeats 2000000
namespace G
/-! ### the traits of a word -/
abbrev Wd := Sx05.Word
def dotp (g : Bytes) : List Bytes := Sx05.dots [] g
def fms (w : Wd) : List Bytes := w.pieces.map fun p => p.form
def gls (w : Wd) : List Bytes := w.pieces.map fun p => p.gloss
def traitL (w : Wd) : List (List Bytes) := [[w.text], fms w, gls w, (gls w).flatMap dotp, (gls w).take 1, (gls w).drop ((gls w).length - 1), gls w]
theorem any_map' {α : Type} (l : List α) (f : α → Bytes) (b : Bytes) : (l.map f).contains b = l.any fun x => f x == b := by
  induction l with
  | nil => rfl
  | cons a l ih =>
    rw [List.map_cons, List.contains_cons, List.any_cons, ih]
    congr 1
    exact Bool.beq_comm
theorem contains_flat (l : List Bytes) (f : Bytes → List Bytes) (b : Bytes) : (l.flatMap f).contains b = l.any fun x => (f x).contains b := by
  induction l with
  | nil => rfl
  | cons a l ih =>
    rw [List.flatMap_cons, List.any_cons, ← ih, Bool.eq_iff_iff]
    simp
theorem last_is (l : List Bytes) : l.drop (l.length - 1) = l.getLast?.toList := by
  cases l with
  | nil => rfl
  | cons a l =>
    rw [List.getLast?_eq_getElem?]
    have h : (a :: l).length - 1 < (a :: l).length := by
      rw [List.length_cons]
      omega
    rw [List.getElem?_eq_getElem h, List.drop_eq_getElem_cons h, List.drop_of_length_le (by rw [List.length_cons]; omega)]
    rfl
/-- a want holds just if its bytes are among the traits of its kind, or not, for 6 -/
theorem want_is (x : Sx05.Want) (w : Wd) (hk : x.kind ≤ 6) : ∃ t, (traitL w)[x.kind]? = some t ∧ x.holds w = (t.contains x.bytes == !decide (x.kind = 6)) := by
  obtain ⟨kind, b⟩ := x
  simp only at hk
  have b0 : ∀ c : Bool, (c == true) = c := fun c => by cases c <;> rfl
  have b1 : ∀ c : Bool, (c == false) = !c := fun c => by cases c <;> rfl
  match kind, hk with
  | 0, _ =>
    refine ⟨_, rfl, ?_⟩
    show (w.text == b) = (([w.text] : List Bytes).contains b == true)
    rw [b0, List.contains_cons]
    simp only [List.contains_nil, Bool.or_false]
    exact Bool.beq_comm
  | 1, _ =>
    refine ⟨_, rfl, ?_⟩
    show (w.pieces.any fun p => p.form == b) = ((fms w).contains b == true)
    rw [b0, fms, any_map']
  | 2, _ =>
    refine ⟨_, rfl, ?_⟩
    show (w.pieces.any fun p => p.gloss == b) = ((gls w).contains b == true)
    rw [b0, gls, any_map']
  | 3, _ =>
    refine ⟨_, rfl, ?_⟩
    show (w.pieces.any fun p => (Sx05.dots [] p.gloss).contains b) = (((gls w).flatMap dotp).contains b == true)
    rw [b0, contains_flat, gls, List.any_map]
    rfl
  | 4, _ =>
    refine ⟨_, rfl, ?_⟩
    show ((w.pieces.head?).any fun p => p.gloss == b) = (((gls w).take 1).contains b == true)
    rw [b0, gls]
    cases w.pieces with
    | nil => rfl
    | cons p r =>
      show (p.gloss == b) = ([p.gloss] : List Bytes).contains b
      rw [List.contains_cons]
      simp only [List.contains_nil, Bool.or_false]
      exact Bool.beq_comm
  | 5, _ =>
    refine ⟨_, rfl, ?_⟩
    show ((w.pieces.getLast?).any fun p => p.gloss == b) = (((gls w).drop ((gls w).length - 1)).contains b == true)
    rw [b0, last_is, gls, List.getLast?_map]
    cases w.pieces.getLast? with
    | none => rfl
    | some p =>
      show (p.gloss == b) = ([p.gloss] : List Bytes).contains b
      rw [List.contains_cons]
      simp only [List.contains_nil, Bool.or_false]
      exact Bool.beq_comm
  | 6, _ =>
    refine ⟨_, rfl, ?_⟩
    show (!w.pieces.any fun p => p.gloss == b) = ((gls w).contains b == false)
    rw [b1, gls, any_map']
/-! ### ends -/
def minD (ns : List Nat) (d : Nat) : Nat := match ns with
  | [] => d
  | n :: r => r.foldl min n
theorem fold_min : ∀ (r : List Nat) (n : Nat), (r.foldl min n = n ∨ r.foldl min n ∈ r) ∧ r.foldl min n ≤ n ∧ ∀ x ∈ r, r.foldl min n ≤ x
  | [], n => ⟨.inl rfl, Nat.le_refl _, fun x hx => by cases hx⟩
  | a :: r, n => by
    obtain ⟨h1, h2, h3⟩ := fold_min r (min n a)
    have e : (a :: r).foldl min n = r.foldl min (min n a) := rfl
    rw [e]
    refine ⟨?_, by omega, fun x hx => ?_⟩
    · rcases h1 with h1 | h1
      · by_cases hk : n ≤ a
        · exact .inl (by omega)
        · exact .inr (by rw [h1, show min n a = a by omega]; exact List.mem_cons_self)
      · exact .inr (List.mem_cons_of_mem _ h1)
    · rcases List.mem_cons.mp hx with rfl | hx
      · omega
      · exact h3 x hx
theorem minD_eq {ns : List Nat} {d e : Nat} (h1 : e = d ∨ e ∈ ns) (h2 : ∀ x ∈ ns, e ≤ x) (h3 : ∀ x ∈ ns, x ≤ d) : minD ns d = e := by
  cases ns with
  | nil =>
    rcases h1 with h1 | h1
    · exact h1.symm
    · cases h1
  | cons n r =>
    show r.foldl min n = e
    obtain ⟨g1, g2, g3⟩ := fold_min r n
    have m : r.foldl min n ∈ n :: r := by
      rcases g1 with g1 | g1
      · rw [g1]
        exact List.mem_cons_self
      · exact List.mem_cons_of_mem _ g1
    have a := h2 _ m
    have c := h3 _ m
    rcases h1 with h1 | h1
    · omega
    · have : r.foldl min n ≤ e := by
        rcases List.mem_cons.mp h1 with rfl | h1
        · exact g2
        · exact g3 _ h1
      omega
theorem reach_lt {l : List Wd} : ∀ {q : List Sx05.Step} {p e : Nat}, Reach l q p e → p < l.length → e < l.length
  | [], p, e, h, hp => by
    have h : e = p := h
    omega
  | x :: r, p, e, ⟨j, h1, h2, ⟨w, hw, _⟩, hr⟩, _ => reach_lt hr (List.getElem?_eq_some_iff.mp hw).1
/-- the earliest end if the steps r come behind the word at p; as many as there are words: nowhere -/
def rchd (l : List Wd) (r : List Sx05.Step) (p : Nat) : Nat := (Sx05.endFrom l r (p + 1)).getD l.length
/-- the end if the step x lies at the word at p -/
def endAt (l : List Wd) (x : Sx05.Step) (r : List Sx05.Step) (p : Nat) : Nat := match l[p]? with
  | some w => if x.holds w = true then rchd l r p else l.length
  | none => l.length
theorem rchd_nil (l : List Wd) (p : Nat) : rchd l [] p = p := rfl
theorem rchd_le {l : List Wd} {r : List Sx05.Step} {p : Nat} (hp : p < l.length) : rchd l r p ≤ l.length := by
  unfold rchd
  cases h : Sx05.endFrom l r (p + 1) with
  | none => exact Nat.le_refl _
  | some e => exact Nat.le_of_lt (reach_lt ((end_is l r p).2 e h).1 hp)
theorem rchd_lt {l : List Wd} {r : List Sx05.Step} {p : Nat} (hp : p < l.length) : rchd l r p < l.length ↔ (Sx05.endFrom l r (p + 1)).isSome = true := by
  unfold rchd
  cases h : Sx05.endFrom l r (p + 1) with
  | none =>
    show l.length < l.length ↔ false = true
    simp
  | some e =>
    have := reach_lt ((end_is l r p).2 e h).1 hp
    show e < l.length ↔ true = true
    simp [this]
theorem endAt_le {l : List Wd} {x : Sx05.Step} {r : List Sx05.Step} {p : Nat} : endAt l x r p ≤ l.length := by
  unfold endAt
  cases h : l[p]? with
  | none => exact Nat.le_refl _
  | some w =>
    show (if x.holds w = true then rchd l r p else l.length) ≤ _
    split
    · exact rchd_le (List.getElem?_eq_some_iff.mp h).1
    · exact Nat.le_refl _
def endsL (l : List Wd) (x : Sx05.Step) (r : List Sx05.Step) : List Nat := (List.range l.length).map (endAt l x r)
theorem endsL_len (l : List Wd) (x : Sx05.Step) (r : List Sx05.Step) : (endsL l x r).length = l.length := by
  unfold endsL
  rw [List.length_map, List.length_range]
theorem endsL_get {l : List Wd} {x : Sx05.Step} {r : List Sx05.Step} {i : Nat} (h : i < l.length) : (endsL l x r)[i]? = some (endAt l x r i) := by
  unfold endsL
  rw [List.getElem?_map, List.getElem?_range h]
  rfl
/-- the step back: the least one among those that the gap lets be -/
theorem rchd_cons {l : List Wd} {x : Sx05.Step} {r : List Sx05.Step} {p : Nat} (hp : p < l.length) : minD (((endsL l x r).take (p + 2 + x.gap)).drop (p + 1)) l.length = rchd l (x :: r) p := by
  have mem : ∀ n, n ∈ ((endsL l x r).take (p + 2 + x.gap)).drop (p + 1) ↔ ∃ j, p < j ∧ j ≤ p + 1 + x.gap ∧ j < l.length ∧ n = endAt l x r j := by
    intro n
    rw [List.mem_iff_getElem?]
    constructor
    · rintro ⟨t, ht⟩
      rw [List.getElem?_drop] at ht
      have h1 : p + 1 + t < (endsL l x r).length ∧ p + 1 + t < p + 2 + x.gap := by
        have := (List.getElem?_eq_some_iff.mp ht).1
        rw [List.length_take] at this
        omega
      rw [endsL_len] at h1
      rw [List.getElem?_take_of_lt h1.2, endsL_get h1.1] at ht
      exact ⟨p + 1 + t, by omega, by omega, h1.1, (Option.some.inj ht).symm⟩
    · rintro ⟨j, h1, h2, h3, rfl⟩
      refine ⟨j - (p + 1), ?_⟩
      rw [List.getElem?_drop, show p + 1 + (j - (p + 1)) = j by omega, List.getElem?_take_of_lt (by omega), endsL_get h3]
  have at_of : ∀ {j e}, endAt l x r j = e → e < l.length → (∃ w, l[j]? = some w ∧ x.holds w = true) ∧ Sx05.endFrom l r (j + 1) = some e := by
    intro j e he hl
    unfold endAt at he
    cases hw : l[j]? with
    | none =>
      rw [hw] at he
      simp only at he
      omega
    | some w =>
      rw [hw] at he
      simp only at he
      by_cases hh : x.holds w = true
      · rw [if_pos hh] at he
        refine ⟨⟨w, rfl, hh⟩, ?_⟩
        unfold rchd at he
        cases hz : Sx05.endFrom l r (j + 1) with
        | none =>
          rw [hz] at he
          simp only [Option.getD_none] at he
          omega
        | some n =>
          rw [hz] at he
          rw [← he]
          rfl
      · rw [if_neg hh] at he
        omega
  have of_at : ∀ {j e}, (∃ w, l[j]? = some w ∧ x.holds w = true) → Sx05.endFrom l r (j + 1) = some e → endAt l x r j = e := by
    rintro j e ⟨w, hw, hh⟩ he
    unfold endAt rchd
    rw [hw]
    simp only
    rw [if_pos hh, he]
    rfl
  refine minD_eq ?_ ?_ ?_
  · unfold rchd
    cases h : Sx05.endFrom l (x :: r) (p + 1) with
    | none => exact .inl rfl
    | some e =>
      right
      obtain ⟨⟨j, h1, h2, hw, hr⟩, hmin⟩ := (end_is l (x :: r) p).2 e h
      show e ∈ _
      have hj : j < l.length := by
        obtain ⟨w, hw, _⟩ := hw
        exact (List.getElem?_eq_some_iff.mp hw).1
      refine (mem e).mpr ⟨j, h1, h2, hj, (of_at hw (end_some hr fun e' he' => hmin e' ⟨j, h1, h2, hw, he'⟩)).symm⟩
  · intro n hn
    obtain ⟨j, h1, h2, h3, rfl⟩ := (mem n).mp hn
    by_cases hl : endAt l x r j < l.length
    · obtain ⟨hw, he⟩ := at_of rfl hl
      have hr : Reach l (x :: r) p (endAt l x r j) := ⟨j, h1, h2, hw, ((end_is l r j).2 _ he).1⟩
      unfold rchd
      cases h : Sx05.endFrom l (x :: r) (p + 1) with
      | none => exact absurd hr (end_none.mp h _)
      | some e => exact ((end_is l (x :: r) p).2 e h).2 _ hr
    · have a := rchd_le (l := l) (r := x :: r) hp
      omega
  · intro n hn
    obtain ⟨j, _, _, _, rfl⟩ := (mem n).mp hn
    exact endAt_le
theorem fm_congr {α β : Type} {f g : α → Option β} : ∀ {l : List α}, (∀ x ∈ l, f x = g x) → l.filterMap f = l.filterMap g
  | [], _ => rfl
  | a :: l, h => by
    rw [List.filterMap_cons, List.filterMap_cons, h a List.mem_cons_self, fm_congr fun x hx => h x (List.mem_cons_of_mem _ hx)]
/-- **what is found**, by the ends of each item's words -/
theorem found_is (l : List Sx05.Item) (x : Sx05.Step) (r : List Sx05.Step) : Sx05.found l (x :: r) = l.zipIdx.flatMap fun i => (List.range i.1.words.length).filterMap fun k => if endAt i.1.words x r k < i.1.words.length then some (i.2, k, endAt i.1.words x r k) else none := by
  show l.zipIdx.flatMap _ = _
  refine flat_ext fun i _ => ?_
  refine fm_congr fun k hk => ?_
  have hk := List.mem_range.mp hk
  have hw : i.1.words[k]? = some i.1.words[k] := List.getElem?_eq_getElem hk
  unfold endAt
  rw [hw]
  simp only
  by_cases hh : x.holds i.1.words[k] = true
  · rw [if_pos hh, if_pos hh]
    cases h : Sx05.endFrom i.1.words r (k + 1) with
    | none =>
      have : ¬ rchd i.1.words r k < i.1.words.length := fun z => by
        rw [rchd_lt hk, h] at z
        cases z
      rw [if_neg this]
      rfl
    | some e =>
      have z : rchd i.1.words r k < i.1.words.length := by
        rw [rchd_lt hk, h]
        rfl
      rw [if_pos z]
      unfold rchd
      rw [h]
      rfl
  · rw [if_neg hh, if_neg hh, if_neg (Nat.lt_irrefl _)]
end G

end

section
set_option Elab.async false
set_option linter.all false
set_option maxRecDepth 100000
set_option maxHeartbeats 4000000
namespace G
open PySem PySem.Spec PyProof.Rows L2 GR
/-! ### heaps, hidden sets -/
theorem Same.put {H H' : Hp} {p : Addr} {o : HO} (s : Same H H') (n : H p = none) : Same H (upd H' p o) := fun b u e => by
  rw [upd_ne (ne_of_none e n)]
  exact s _ _ e
/-- S and p -/
abbrev And1 (S : Addr → Prop) (p : Addr) : Addr → Prop := fun b => S b ∨ b = p
theorem Hd.wk {S S' : Addr → Prop} {H : Hp} (h : ∀ b, S b → S' b) : Same (Hd S' H) (Hd S H) := fun b o e => by
  obtain ⟨g1, g2⟩ := Hd.inv e
  rw [Hd.at fun z => g1 (h b z)]
  exact g2
theorem Hd.wk1 {S : Addr → Prop} {H : Hp} {p : Addr} : Same (Hd (And1 S p) H) (Hd S H) := Hd.wk fun _ => .inl
theorem Hd.updS {S : Addr → Prop} {H : Hp} {x : Addr} {o : HO} (h : S x) : Hd S (L2.upd H x o) = Hd S H := by
  funext b
  unfold Hd
  by_cases hb : S b
  · rw [if_pos hb, if_pos hb]
  · have hne : b ≠ x := fun z => hb (by rw [z]; exact h)
    rw [if_neg hb, if_neg hb, upd_ne hne]
/-- what stands outside S in H stands outside S and p, p new -/
theorem Hd.to1 {S : Addr → Prop} {H H' : Hp} {p : Addr} (s : Same H H') (n : H p = none) : Same (Hd S H) (Hd (And1 S p) H') := fun b o e => by
  obtain ⟨g1, g2⟩ := Hd.inv e
  have hb : b ≠ p := ne_of_none g2 n
  rw [Hd.at fun z => z.elim g1 hb]
  exact s _ _ g2
theorem Hd.of {S : Addr → Prop} {H : Hp} {b : Addr} {o : HO} (h : ¬ S b) (e : H b = some o) : Hd S H b = some o := by
  rw [Hd.at h]
  exact e
theorem notS {S : Addr → Prop} {H : Hp} {b : Addr} (hS : ∀ b, S b → H b ≠ none) (n : H b = none) : ¬ S b := fun z => hS b z n
theorem up_S {S : Addr → Prop} {H H' : Hp} (hS : ∀ b, S b → H b ≠ none) (s : Same H H') : ∀ b, S b → H' b ≠ none := fun b hb z => hS b hb (s.free z)
theorem and1_S {S : Addr → Prop} {H : Hp} {p : Addr} {o : HO} (hS : ∀ b, S b → H b ≠ none) (e : H p = some o) : ∀ b, And1 S p b → H b ≠ none := by
  rintro b (hb | rfl)
  · exact hS b hb
  · rw [e]
    exact fun z => by cases z
/-- a slice of a tuple -/
theorem sla_of {K : PySem.W.Frag} {S : Addr → Prop} {H : Hp} {a : Addr} {xs : List V} {lo hi : Option Int} {Q : VK} (ha : Hd S H a = some (.tup xs)) (hS : ∀ b, S b → H b ≠ none)
    (k : ∀ H' q, Same H H' → Hd S H' q = some (.tup (cutV xs lo hi)) → Q (.ref q) H') : rSlA K (.ref a) lo hi H Q := by
  refine ⟨a, xs, rfl, .of (Hd.sub _ _ ha), fun h => k H a (fun _ _ e => e) ?_, fun _ p np => k _ p (Same.new np) ?_⟩
  · rw [ha]
    unfold cutV
    rw [h.1, h.2, List.drop_zero, Nat.sub_zero, List.take_length]
  · exact Hd.of (notS hS np) upd_same
/-! ### cut_at of a tuple -/
def RowT (C : Addr) (H : Hp) (a : Addr) (r : Seg) : Prop := ∃ dx q, H a = some (.ins C dx [("place", ni r.1), ("signs", .ref q)]) ∧ H q = some (.tup (nis r.2))
theorem RowT.same {C : Addr} {H H' : Hp} (s : Same H H') {a : Addr} {r : Seg} (h : RowT C H a r) : RowT C H' a r := by
  obtain ⟨dx, q, e1, e2⟩ := h
  exact ⟨dx, q, s _ _ e1, s _ _ e2⟩
def spCutT (K : PySem.W.Frag) (A : Adr) : Sp := fun vs H Q _ => ∃ (S : Addr → Prop) (a m : Addr) (r : Seg) (marks : Bytes), vs = [.ref a, .ref m] ∧ (∀ b, S b → H b ≠ none) ∧ RowT A.Row (Hd S H) a r ∧ SqT K H m (nis marks) ∧ r.2.length ≤ 7000 ∧
  ∀ H' p as, Same H H' → H p = none → H' p = some (.lst (as.map V.ref)) → Paired (RowT A.Row (Hd (And1 S p) H')) as (cuts marks r) → Q (.ref p) H'
/-- a new row, appended to the list at p -/
theorem rowT_app {S : Addr → Prop} {H1 H2 : Hp} {C p q x dx : Addr} {as : List Addr} {cs : List Seg} {pl : Nat} {bs : Bytes} (hS : ∀ b, And1 S p b → H2 b ≠ none) (pr : Paired (RowT C (Hd (And1 S p) H2)) as cs)
    (hq : Hd (And1 S p) H2 q = some (.tup (nis bs))) (nx : H2 x = none) (nd : H2 dx = none) : Paired (RowT C (Hd (And1 S p) (recH H2 C x dx [("place", ni pl), ("signs", .ref q)]))) (as ++ [x]) (cs ++ [(pl, bs)]) := by
  have s : Same H2 (recH H2 C x dx [("place", ni pl), ("signs", .ref q)]) := Same.recH nx nd
  exact paired_snoc (Paired.mapP pr fun _ _ z => z.same (Hd.mono s)) ⟨dx, q, Hd.of (notS hS nx) recH_at, Hd.mono s _ _ hq⟩
section
variable {P : Program} {w : World} {K : PySem.W.Frag} {mg : Str → Option Value} {base : Heap} {A : Adr}
theorem ok_cut_atT {f : Addr} {fd : FuncData} (F : Fun K "cut_at" "cut_at" s_cut_at f fd) (R : Rec2 P w K mg base "Row" A.Row "place" "signs") (mE : mg "enumerate" = none) : FnOk P w K mg base CX0 3 f fd ["row", "marks"] (spCutT K A) := by
  refine F.ok sc_cut_at (fun vs H Q E h => ?_) (fun cdv Ar outer s H vs Q E hr h => ?_)
  · obtain ⟨S, a, m, r, marks, rfl, _⟩ := h
    rfl
  refine ⟨_, pss_cons (ps_set (i := 2) sc_cut_at.nd rfl (.inl rfl) (pe_lst pa_nil))
    (pss_cons (ps_set (i := 3) sc_cut_at.nd rfl (.inl rfl) pe_int)
    (pss_cons (ps_for PassesOwn.never rfl (pi_enumT (by rfl) mE (pa_cons (pe_fld (pv 0) rfl) pa_nil))
        (pg_tup rfl (pgs_cons (pg_name (i := 4) sc_cut_at.nd rfl (.inl rfl)) (pgs_cons (pg_name (i := 5) sc_cut_at.nd rfl (.inl rfl)) pgs_nil)))
      (pss_one (ps_if (pt_cmpR op_in_seq (pv 5) (pv 1) rfl)
        (pss_cons (ps_expr (pe_bm PySem.F.plainAttrs_list PySem.F.slot_list_append PySem.F.type_list_append mt_append (pv 2)
            (pa_cons (pe_rec2 R hr (pa_cons (pe_op op_add (pe_fld (pv 0) rfl) (pv 3)) (pa_cons (pe_slice sl_tupA (pe_fld (pv 0) rfl) (po_some (pv 3)) (po_some (pv 4))) pa_nil))) pa_nil)))
          (pss_one (ps_set (i := 3) sc_cut_at.nd rfl (.inl rfl) (pe_op op_add (pv 4) pe_int))))
        pss_nil)))
    (pss_cons (ps_expr (pe_bm PySem.F.plainAttrs_list PySem.F.slot_list_append PySem.F.type_list_append mt_append (pv 2)
            (pa_cons (pe_rec2 R hr (pa_cons (pe_op op_add (pe_fld (pv 0) rfl) (pv 3)) (pa_cons (pe_slice sl_tupA (pe_fld (pv 0) rfl) (po_some (pv 3)) po_none) pa_nil))) pa_nil)))
    (pss_one (ps_ret (pv 2)))))), ?_⟩
  obtain ⟨S, a, m, r, marks, rfl, hS, ⟨dx, q, haS, hqS⟩, hm, hlen, k⟩ := h
  have ha := Hd.sub _ _ haS
  have hq := Hd.sub _ _ hqS
  refine ⟨Nat.zero_le _, fun p np => ?_⟩
  have sP : Same H (upd H p (.lst [])) := Same.new np
  refine ⟨_, rfl, a, A.Row, dx, _, _, rfl, sP _ _ ha, R.cl, R.n2, lk2 R.ne, q, nis r.2, rfl, .of (sP _ _ hq), ?_⟩
  refine for_it (walk_enumT (K := K) (a := q) (xs := nis r.2)) (fun i σ H' => ∃ (st : Nat) (as : List Addr) (cs : List Seg) (v4 v5 : Option V),
      σ = [some (.ref a), some (.ref m), some (.ref p), some (ni st), v4, v5] ∧ Same H H' ∧ H' p = some (.lst (as.map V.ref)) ∧ Paired (RowT A.Row (Hd (And1 S p) H')) as cs ∧ st ≤ i ∧ as.length ≤ i ∧
      cuts marks r = cs ++ cutF (fun c => marks.contains c) (r.1 + i) ((r.2.take i).drop st) (r.2.drop i)) ?_ ?_ ?_ ?_
  · refine ⟨0, [], [], none, none, rfl, sP, upd_same, .nil, Nat.le_refl _, Nat.le_refl _, ?_⟩
    simp [cuts]
  · rintro i σ H' hi ⟨st, as, cs, v4, v5, _, s1, _⟩
    exact .of (s1 _ _ hq)
  · rintro i x σ H1 H2 hi ⟨st, as, cs, v4, v5, rfl, s1, hp, pr, h1, h2, h3⟩ hy
    obtain ⟨T, x, y, rfl, nT, rfl, e1, e2⟩ := hy
    cases e1
    obtain ⟨c, hc, rfl⟩ := nis_get e2
    have sT : Same H1 (upd H1 T (.tup [.int (i : Nat), ni c])) := Same.new nT
    rw [nis_length] at hi
    have s2 := s1.trans sT
    have hm2 : SqT K (upd H1 T (.tup [.int (i : Nat), ni c])) m (nis marks) := by
      rcases hm with (h | ⟨o, h⟩) | h
      · exact .inl (.inl (s2 _ _ h))
      · exact .inl (.inr ⟨o, s2 _ _ h⟩)
      · exact .inr h
    refine ⟨T, _, rfl, .of upd_same, rfl, _, _, rfl, _, _, rfl, rfl, ?_⟩
    refine ⟨_, rfl, _, rfl, m, _, rfl, .inr hm2, rfl, nis_flat _, _, rfl, ?_⟩
    rw [inV_nis]
    have e3 : cuts marks r = cs ++ cutF (fun c => marks.contains c) (r.1 + i) ((r.2.take i).drop st) (c :: r.2.drop (i + 1)) := by rw [← drop_eq' hc]; exact h3
    have hp2 := sT _ _ hp
    have pr2 : Paired (RowT A.Row (Hd (And1 S p) (upd H1 T (.tup [.int (i : Nat), ni c])))) as cs := Paired.mapP pr fun _ _ z => z.same (Hd.mono sT)
    generalize upd H1 T (.tup [.int (i : Nat), ni c]) = H2 at *
    by_cases hmk : marks.contains c = true
    · refine if_true_of hmk ?_
      refine ⟨_, rfl, .inl ⟨rfl, _, .of hp2⟩, ?_⟩
      refine ⟨_, rfl, a, A.Row, dx, _, _, rfl, s2 _ _ ha, R.cl, R.n1, lk1, _, rfl, _, _, rfl, rfl, ?_⟩
      have hS2 : ∀ b, And1 S p b → H2 b ≠ none := and1_S (up_S hS s2) hp2
      refine ⟨_, rfl, a, A.Row, dx, _, _, rfl, s2 _ _ ha, R.cl, R.n2, lk2 R.ne, _, rfl, _, rfl, _, rfl, _, rfl, sla_of (S := And1 S p) (Hd.to1 s2 np _ _ hqS) hS2 fun H4 q2 s4 hq2 => ?_⟩
      rw [cutV_nis _ _ _ h1 (Nat.le_of_lt hi)] at hq2
      intro x dx2 nx nd2 ne
      have g4 := rowT_app (H1 := H2) (pl := r.1 + st) (up_S hS2 s4) (Paired.mapP pr2 fun _ _ z => z.same (Hd.mono s4)) hq2 nx nd2
      have s5 : Same H4 (recH H4 A.Row x dx2 [("place", .int (((r.1 : Nat) : Int) + ((st : Nat) : Int))), ("signs", .ref q2)]) := Same.recH nx nd2
      have hp5 := s5 _ _ (s4 _ _ hp2)
      refine ⟨p, _, _, rfl, rfl, hp5, ?_, ?_⟩
      · rw [List.length_map, sizeLine_eq]
        omega
      refine ⟨_, rfl, _, _, rfl, rfl, ?_⟩
      refine ⟨i + 1, as ++ [x], cs ++ [(r.1 + st, (r.2.take i).drop st)], _, _, rfl, Same.put (s2.trans (s4.trans s5)) np, ?_, ?_, Nat.le_refl _, ?_, ?_⟩
      · rw [upd_same, List.map_append]
        rfl
      · rw [Hd.updS (.inr rfl)]
        exact g4
      · rw [List.length_append]
        exact Nat.add_le_add_right h2 1
      · rw [e3]
        show cs ++ (if marks.contains c = true then _ else _) = _
        rw [if_pos hmk, List.append_assoc]
        have l1 : ((r.2.take i).drop st).length = i - st := by rw [List.length_drop, List.length_take, Nat.min_eq_left (Nat.le_of_lt hi)]
        have l2 : r.1 + i - ((r.2.take i).drop st).length = r.1 + st := by rw [l1]; omega
        have l3 : (r.2.take (i + 1)).drop (i + 1) = [] := List.drop_eq_nil_of_le (by rw [List.length_take]; omega)
        rw [l2, l3]
        rfl
    · refine if_false_of (Bool.not_eq_true _ ▸ hmk) ?_
      refine ⟨st, as, cs, _, _, rfl, s2, hp2, pr2, Nat.le_succ_of_le h1, Nat.le_succ_of_le h2, ?_⟩
      rw [e3]
      show cs ++ (if marks.contains c = true then _ else _) = _
      rw [if_neg hmk, take_succ' hc, List.drop_append_of_le_length (by rw [List.length_take]; omega)]
      rfl
  · rintro σ H1 ⟨st, as, cs, v4, v5, rfl, s1, hp, pr, h1, h2, h3⟩
    rw [nis_length] at h1 h2 h3
    refine ⟨_, rfl, .inl ⟨rfl, _, .of hp⟩, ?_⟩
    refine ⟨_, rfl, a, A.Row, dx, _, _, rfl, s1 _ _ ha, R.cl, R.n1, lk1, _, rfl, _, _, rfl, rfl, ?_⟩
    have hS2 : ∀ b, And1 S p b → H1 b ≠ none := and1_S (up_S hS s1) hp
    refine ⟨_, rfl, a, A.Row, dx, _, _, rfl, s1 _ _ ha, R.cl, R.n2, lk2 R.ne, _, rfl, _, rfl, ?_⟩
    unfold tNoPart
    refine sla_of (K := K) (lo := some ((st : Nat) : Int)) (hi := none) (S := And1 S p) (Hd.to1 s1 np _ _ hqS) hS2 fun H4 q2 s4 hq2 => ?_
    rw [cutV_nis_end _ _ h1] at hq2
    intro x dx2 nx nd2 ne
    have g4 := rowT_app (H1 := H1) (pl := r.1 + st) (up_S hS2 s4) (Paired.mapP pr fun _ _ z => z.same (Hd.mono s4)) hq2 nx nd2
    have s5 : Same H4 (recH H4 A.Row x dx2 [("place", .int (((r.1 : Nat) : Int) + ((st : Nat) : Int))), ("signs", .ref q2)]) := Same.recH nx nd2
    have hp5 := s5 _ _ (s4 _ _ hp)
    refine ⟨p, _, _, rfl, rfl, hp5, ?_, ?_⟩
    · rw [List.length_map, sizeLine_eq]
      omega
    refine ⟨_, rfl, k _ p (as ++ [x]) (Same.put (s1.trans (s4.trans s5)) np) np ?_ ?_⟩
    · rw [upd_same, List.map_append]
      rfl
    rw [Hd.updS (.inr rfl), h3, List.take_length, List.drop_length]
    have e : cutF (fun c => marks.contains c) (r.1 + r.2.length) (r.2.drop st) [] = [(r.1 + st, r.2.drop st)] := by
      show [(r.1 + r.2.length - (r.2.drop st).length, r.2.drop st)] = _
      rw [List.length_drop, show r.1 + r.2.length - (r.2.length - st) = r.1 + st by omega]
    rw [e]
    exact g4
/-! ### dotted_parts -/
/-- a list of tuples of bytes -/
def BTs (H : Hp) (p : Addr) (bs : List Bytes) : Prop := ∃ as : List Addr, H p = some (.lst (as.map V.ref)) ∧ Paired (fun a b => H a = some (.tup (nis b))) as bs
theorem BTs.same {H H' : Hp} (s : Same H H') {p : Addr} {bs : List Bytes} (h : BTs H p bs) : BTs H' p bs := by
  obtain ⟨qs, e, r⟩ := h
  exact ⟨qs, s _ _ e, Paired.mapP r fun _ _ z => s _ _ z⟩
theorem dots_is : ∀ (l : Bytes) (p : Nat) (had : Bytes), (cutF (fun c => ([46] : Bytes).contains c) p had l).map (·.2) = Sx05.dots had l
  | [], _, _ => rfl
  | c :: r, p, had => by
    have ih1 := dots_is r (p + 1) []
    have ih2 := dots_is r (p + 1) (had ++ [c])
    unfold cutF Sx05.dots
    by_cases hc : c = 46
    · rw [if_pos hc, if_pos (show ([46] : Bytes).contains c = true by simp [hc]), List.map_cons, ih1]
    · rw [if_neg hc, if_neg (show ¬ ([46] : Bytes).contains c = true by simp [hc]), ih2]
theorem dotp_is (g : Bytes) : (cuts [46] (0, g)).map (·.2) = dotp g := dots_is g 0 []
theorem dotp_len (g : Bytes) : (dotp g).length ≤ g.length + 1 := by
  rw [← dotp_is, List.length_map]
  exact cuts_length [46] (0, g)
def spDots : Sp := fun vs H Q _ => ∃ (S : Addr → Prop) (q : Addr) (g : Bytes), vs = [.ref q] ∧ (∀ b, S b → H b ≠ none) ∧ Hd S H q = some (.tup (nis g)) ∧ g.length ≤ 7000 ∧
  ∀ H' p, Same H H' → H p = none → BTs (Hd S H') p (dotp g) → Q (.ref p) H'
variable {fC : Addr}
theorem sc_dotted_parts : FnScope ["gloss", "part"] ["gloss"] (defScope s_dotted_parts) := ⟨rfl, rfl, rfl, by decide +kernel, rfl, by decide +kernel, by decide +kernel⟩
theorem ok_dotted_parts {f : Addr} {fd : FuncData} (F : Fun K "dotted_parts" "dotted_parts" s_dotted_parts f fd) (R : Rec2 P w K mg base "Row" A.Row "place" "signs") (D : Def P w K mg base CX0 3 "cut_at" fC ["row", "marks"] (spCutT K A))
    {t46 : Tok} (mD : mg "DOT" = some (.int 46 t46)) : FnOk P w K mg base CX0 4 f fd ["gloss"] spDots := by
  refine F.ok sc_dotted_parts (fun vs H Q E h => ?_) (fun cdv Ar outer s H vs Q E hr h => ?_)
  · obtain ⟨S, q, g, rfl, _⟩ := h
    rfl
  refine ⟨_, pss_one (ps_ret (pe_lc (own := [("part", 1)]) (g := gName 1) (tt := tYes) (te := tFld K (tVar 1) "signs") rfl sc_dotted_parts.nd
      (pi_list (pe_def D hr pass0 (pa_cons (pe_rec2 R hr (pa_cons pe_int (pa_cons (pv 0) pa_nil))) (pa_cons (pe_tup (pa_cons (pe_glob (v := .int 46) rfl mD ⟨_, rfl⟩) pa_nil)) pa_nil))))
      (blkOk_by (N := ["gloss", "part"]) (sc := defScope s_dotted_parts) (by decide +kernel))
      (fun _ _ _ _ _ => pg_name (i := 1) sc_dotted_parts.nd rfl (Or.inl rfl)) (fun _ _ _ _ _ => pts_nil)
      (fun _ _ _ _ _ => by exact (pe_fld (pv 1) rfl)))), ?_⟩
  obtain ⟨S, q, g, rfl, hS, hq, hl, k⟩ := h
  refine ⟨_, rfl, fun x dx nx nd ne => ?_⟩
  refine ⟨by show 1 ≤ sizeLine; decide, fun T nT => ?_⟩
  have s1 : Same H (recH H A.Row x dx [("place", .int 0), ("signs", .ref q)]) := Same.recH nx nd
  have s2 := s1.trans (Same.new (o := .tup [.int 46]) nT)
  refine ⟨S, x, T, (0, g), [46], rfl, up_S hS s2, ⟨dx, q, ?_, Hd.mono s2 _ _ hq⟩, .of upd_same, hl, fun H3 p as s3 np hp pr => ?_⟩
  · exact Hd.of (notS hS nx) ((Same.new nT) _ _ recH_at)
  have s03 := s2.trans s3
  have lp := Paired.length pr
  have lc := cuts_length [46] (0, g)
  have lc : (cuts [46] (0, g)).length ≤ g.length + 1 := lc
  refine ⟨p, rfl, ⟨_, .of hp⟩, fun D nD => ?_⟩
  have s4 : Same H3 (upd H3 D (.lst [])) := Same.new nD
  refine lc_it (walk_list (K := K) (a := p) (xs := as.map V.ref)) (fun i H' => ∃ bs : List Addr, Same H3 (Off H' D) ∧ H' D = some (.lst (bs.map V.ref)) ∧ bs.length ≤ i ∧
    Paired (fun a b => Hd S H' a = some (.tup (nis b)) ∧ a ≠ D) bs (((cuts [46] (0, g)).take i).map (·.2))) ?_ ?_ ?_ ?_
  · exact ⟨[], Off.old s4 nD, upd_same, Nat.le_refl _, .nil⟩
  · rintro i H' hi ⟨bs, s5, _⟩
    exact .of (Off.same _ _ (s5 _ _ hp))
  · rintro i v H1 H2 hi ⟨bs, s5, hD, hb, pb⟩ ⟨rfl, hx⟩
    rw [List.length_map] at hi
    rw [List.getElem?_map] at hx
    obtain ⟨a, ha1, rfl⟩ := Option.map_eq_some_iff.mp hx
    obtain ⟨sg, hs1, dxa, qa, ea, eq⟩ := paired_get pr ha1
    have ea := Hd.sub _ _ ea
    have eq := Hd.wk1 _ _ eq
    have old : ∀ {b o}, H3 b = some o → H2 b = some o := fun e => Off.same _ _ (s5 _ _ e)
    refine ⟨rfl, yes_of ?_⟩
    refine ⟨_, rfl, a, A.Row, dxa, _, _, rfl, old ea, R.cl, R.n2, lk2 R.ne, _, hD, ?_, bs ++ [qa], ?_, ?_, ?_, ?_⟩
    · rw [List.length_map, sizeLine_eq]
      omega
    · rw [Off.upd]
      exact s5
    · rw [upd_same, List.map_append]
      rfl
    · rw [List.length_append]
      exact Nat.add_le_add_right hb 1
    · rw [List.take_add_one, hs1, List.map_append]
      have hqD : qa ≠ D := ne_of_none (Hd.sub _ _ eq) nD
      refine paired_snoc (Paired.mapP pb fun a b z => ⟨?_, z.2⟩) ⟨?_, hqD⟩
      · obtain ⟨z1, z2⟩ := Hd.inv z.1
        refine Hd.of z1 ?_
        rw [upd_ne z.2]
        exact z2
      · obtain ⟨z1, z2⟩ := Hd.inv eq
        refine Hd.of z1 ?_
        rw [upd_ne hqD]
        exact old z2
  · rintro H' ⟨bs, s5, hD, hb, pb⟩
    rw [List.length_map, lp, List.take_length, dotp_is] at pb
    have fD : H D = none := s03.free nD
    exact k _ D (s03.trans (s5.trans Off.same)) fD ⟨bs, Hd.of (notS hS fD) hD, Paired.mapP pb fun _ _ z => z.1⟩
end
end G

end

section
set_option Elab.async false
set_option linter.all false
set_option maxRecDepth 100000
set_option maxHeartbeats 4000000
namespace G
open PySem PySem.Spec PyProof.Rows L2 GR
/-! ### tuples of bytes as data -/
def dTp (l : Bytes) : PyData := .tuple (l.map fun n : Nat => .int (n : Int))
theorem dp_dTp {K : PySem.W.Frag} {H : Hp} {q : Addr} {l : Bytes} (h : H q = some (.tup (nis l))) : Dp K H (.ref q) (dTp l) := .tup (.of h) (dB_all l)
theorem dp_dTps {K : PySem.W.Frag} {H : Hp} : ∀ {qs : List Addr} {ls : List Bytes}, Paired (fun q l => H q = some (.tup (nis l))) qs ls → DpAll K H (qs.map V.ref) (ls.map dTp)
  | _, _, .nil => .nil
  | _, _, .cons r t => .cons (dp_dTp r) (dp_dTps t)
theorem lay_dTp (l : Bytes) : PyData.canLay0 (dTp l) = true := by
  unfold dTp
  simp only [PyData.canLay0]
  exact lay_ints l
theorem lay_dTps : ∀ ls : List Bytes, PyData.canLayAll0 (ls.map dTp) = true
  | [] => by simp [PyData.canLayAll0]
  | l :: r => by
    have ih := lay_dTps r
    simp only [List.map_cons, PyData.canLayAll0, lay_dTp, Bool.true_and]
    exact ih
theorem dep_dTp (l : Bytes) : PyData.depth (dTp l) ≤ 2 := by
  have h := dep_ints l
  unfold dTp
  simp only [PyData.depth]
  omega
theorem dep_dTps : ∀ ls : List Bytes, PyData.depthAll (ls.map dTp) ≤ 2
  | [] => by simp [PyData.depthAll]
  | l :: r => by
    have ih := dep_dTps r
    have h := dep_dTp l
    simp only [List.map_cons, PyData.depthAll]
    omega
theorem shaped_dTp (l : Bytes) : SeqAt.shaped (dTp l) = true := by
  unfold SeqAt.shaped
  rw [lay_dTp, Bool.true_and]
  have := dep_dTp l
  exact decide_eq_true (by omega)
theorem shaped_dTps (ls : List Bytes) : SeqAt.shaped (.list (ls.map dTp)) = true := by
  unfold SeqAt.shaped
  have h := dep_dTps ls
  have e : PyData.canLay0 (.list (ls.map dTp)) = true := by
    simp only [PyData.canLay0]
    exact lay_dTps ls
  rw [e, Bool.true_and]
  refine decide_eq_true ?_
  simp only [PyData.depth]
  omega
theorem eqv_dTp (a b : Bytes) : PyData.eqv (dTp a) (dTp b) = decide (a = b) := by
  unfold dTp
  simp only [PyData.eqv]
  exact eqv_ints a b
theorem any_dTp (ls : List Bytes) (b : Bytes) : ((ls.map dTp).any fun z => PyData.eqv z (dTp b)) = ls.contains b := by
  rw [List.any_map]
  induction ls with
  | nil => rfl
  | cons l r ih =>
    rw [List.any_cons, ih, List.contains_cons]
    congr 1
    show PyData.eqv (dTp l) (dTp b) = _
    rw [eqv_dTp, Bool.eq_iff_iff, decide_eq_true_iff, beq_iff_eq]
    exact eq_comm
/-! ### the traits of a word -/
def TrAt (H : Hp) (a : Addr) (x : Wd) : Prop := ∃ ps : List Addr, H a = some (.tup (ps.map V.ref)) ∧ Paired (BTs H) ps (traitL x)
theorem TrAt.same {H H' : Hp} (s : Same H H') {a : Addr} {x : Wd} (h : TrAt H a x) : TrAt H' a x := by
  obtain ⟨ps, e, r⟩ := h
  exact ⟨ps, s _ _ e, Paired.mapP r fun _ _ z => z.same s⟩
def TrWs (H : Hp) (p : Addr) (ws : List Wd) : Prop := ∃ as : List Addr, H p = some (.lst (as.map V.ref)) ∧ Paired (TrAt H) as ws
theorem TrWs.same {H H' : Hp} (s : Same H H') {p : Addr} {ws : List Wd} (h : TrWs H p ws) : TrWs H' p ws := by
  obtain ⟨as, e, r⟩ := h
  exact ⟨as, s _ _ e, Paired.mapP r fun _ _ z => z.same s⟩
def TrsAt (H : Hp) (p : Addr) (l : List Sx05.Item) : Prop := ∃ as : List Addr, H p = some (.lst (as.map V.ref)) ∧ Paired (fun a (x : Sx05.Item) => TrWs H a x.words) as l
theorem TrsAt.same {H H' : Hp} (s : Same H H') {p : Addr} {l : List Sx05.Item} (h : TrsAt H p l) : TrsAt H' p l := by
  obtain ⟨as, e, r⟩ := h
  exact ⟨as, s _ _ e, Paired.mapP r fun _ _ z => z.same s⟩
theorem sIx_m1 (n : Nat) : HT.sIx n 0 (some (-1)) = n - 1 := by
  have e : HT.sIx n 0 (some (-1)) = ((-1 : Int) + (n : Int)).toNat := by
    unfold HT.sIx
    exact if_pos (by decide)
  rw [e]
  omega
theorem cut_last (qs : List Addr) : cutV (qs.map V.ref) (some (-1)) none = (qs.drop (qs.length - 1)).map V.ref := by
  unfold cutV
  rw [sIx_m1, HT.sIx_none, List.length_map, ← List.map_drop, ← List.map_take, List.take_of_length_le (by rw [List.length_drop]; exact Nat.le_refl _)]
theorem cut_first (qs : List Addr) : cutV (qs.map V.ref) none (some 1) = (qs.take 1).map V.ref := by
  unfold cutV
  rw [HT.sIx_none, List.drop_zero, Nat.sub_zero, show (some 1 : Option Int) = some ((1 : Nat) : Int) from rfl, HT.sIx_nat, List.length_map, ← List.map_take]
  congr 1
  cases qs with
  | nil => rfl
  | cons c r => rw [List.length_cons, Nat.min_eq_left (by omega)]
theorem paired_take {α β : Type} {F : α → β → Prop} : ∀ {l : List α} {m : List β} (n : Nat), Paired F l m → Paired F (l.take n) (m.take n)
  | _, _, 0, _ => by rw [List.take_zero, List.take_zero]; exact .nil
  | _, _, n + 1, .nil => by rw [List.take_nil, List.take_nil]; exact .nil
  | _, _, n + 1, .cons r t => by rw [List.take_succ_cons, List.take_succ_cons]; exact .cons r (paired_take n t)
theorem paired_dropN {α β : Type} {F : α → β → Prop} : ∀ {l : List α} {m : List β} (n : Nat), Paired F l m → Paired F (l.drop n) (m.drop n)
  | _, _, 0, h => h
  | _, _, n + 1, .nil => by rw [List.drop_nil, List.drop_nil]; exact .nil
  | _, _, n + 1, .cons r t => paired_dropN n t
/-- a word whose traits can be told -/
def WdOk (x : Wd) : Prop := x.pieces.length ≤ 8 ∧ ∀ p ∈ x.pieces, p.gloss.length ≤ 7000
def spTraits (A : Adr) : Sp := fun vs H Q _ => ∃ (S : Addr → Prop) (a : Addr) (x : Wd), vs = [.ref a] ∧ (∀ b, S b → H b ≠ none) ∧ WordAt A.Word (Hd S H) a x ∧ WdOk x ∧
  ∀ H' p, Same H H' → H p = none → TrAt (Hd S H') p x → Q (.ref p) H'
theorem parts_len : ∀ (l : List Bytes), (∀ g ∈ l, g.length ≤ 7000) → (l.flatMap dotp).length ≤ l.length * 7001
  | [], _ => Nat.zero_le _
  | g :: l, h => by
    have ih := parts_len l fun x hx => h x (List.mem_cons_of_mem _ hx)
    have h1 := h g List.mem_cons_self
    have h2 := dotp_len g
    rw [List.flatMap_cons, List.length_append, List.length_cons, Nat.add_mul]
    omega
section
variable {P : Program} {w : World} {K : PySem.W.Frag} {mg : Str → Option Value} {base : Heap} {A : Adr} {f1 : Addr}
abbrev nTr : List Str := ["word", "forms", "glosses", "parts", "gloss", "piece"]
theorem sc_traits_of : FnScope nTr ["word"] (defScope s_traits_of) := ⟨rfl, rfl, rfl, by decide +kernel, rfl, by decide +kernel, by decide +kernel⟩
theorem pcs_parts {H : Hp} : ∀ {cs : List Addr} {ps : List Pie}, Paired (PcAt H) cs ps → ∃ fs gs : List Addr, Paired (fun q b => H q = some (.tup (nis b))) fs (ps.map fun p => p.form) ∧ Paired (fun q b => H q = some (.tup (nis b))) gs (ps.map fun p => p.gloss) ∧
    fs.length = cs.length ∧ gs.length = cs.length ∧ ∀ (i : Nat) (c : Addr), cs[i]? = some c → ∃ (s : V) (f g : Addr), fs[i]? = some f ∧ gs[i]? = some g ∧ H c = some (.tup [s, .ref f, .ref g])
  | _, _, .nil => ⟨[], [], .nil, .nil, rfl, rfl, fun i c h => by simp at h⟩
  | _, _, .cons (b := p) r t => by
    obtain ⟨fs, gs, h1, h2, h3, h4, h5⟩ := pcs_parts t
    obtain ⟨f, g, e1, e2, e3⟩ := r
    refine ⟨f :: fs, g :: gs, .cons e2 h1, .cons e3 h2, congrArg Nat.succ h3, congrArg Nat.succ h4, fun i c h => ?_⟩
    cases i with
    | zero =>
      have h : some _ = some c := h
      cases h
      exact ⟨_, f, g, rfl, rfl, e1⟩
    | succ i => exact h5 i c h
theorem take_map_succ {as : List Addr} {i : Nat} {a : Addr} (h : as[i]? = some a) : (as.take i).map V.ref ++ [V.ref a] = (as.take (i + 1)).map V.ref := by
  rw [List.take_add_one, h, List.map_append]
  rfl
theorem ok_traits_of {f : Addr} {fd : FuncData} (F : Fun K "traits_of" "traits_of" s_traits_of f fd) (RW : Rec2 P w K mg base "Word" A.Word "rows" "pieces") (D1 : Def P w K mg base CX0 4 "dotted_parts" f1 ["gloss"] spDots) (mT : mg "tuple" = none)
    {t1 t2 : Tok} (m1 : mg "FORM" = some (.int 1 t1)) (m2 : mg "GLOSS" = some (.int 2 t2)) : FnOk P w K mg base CX0 5 f fd ["word"] (spTraits A) := by
  refine F.ok sc_traits_of (fun vs H Q E h => ?_) (fun cdv Ar outer s H vs Q E hr h => ?_)
  · obtain ⟨S, a, x, rfl, _⟩ := h
    rfl
  refine ⟨_, pss_cons (ps_setLc (i := 1) (own := [("piece", 5)]) (g := gName 5) (tt := tYes) (te := tOp (rIxT K) (tVar 5) (tC (.int 1))) rfl sc_traits_of.nd rfl rfl (sw_true rfl rfl rfl (by decide +kernel))
      (pi_list (pe_fld (pv 0) rfl)) (blkOk_by (N := nTr) (sc := defScope s_traits_of) (by decide +kernel)) (fun _ _ _ _ _ => pg_name (i := 5) sc_traits_of.nd rfl (Or.inl rfl)) (fun _ _ _ _ _ => pts_nil)
      (fun _ _ _ _ _ => by exact (pe_ix ix_tup (pv 5) (pe_glob (v := .int 1) rfl m1 ⟨_, rfl⟩) (fun _ _ => rfl))))
    (pss_cons (ps_setLc (i := 2) (own := [("piece", 5)]) (g := gName 5) (tt := tYes) (te := tOp (rIxT K) (tVar 5) (tC (.int 2))) rfl sc_traits_of.nd rfl rfl (sw_true rfl rfl rfl (by decide +kernel))
      (pi_list (pe_fld (pv 0) rfl)) (blkOk_by (N := nTr) (sc := defScope s_traits_of) (by decide +kernel)) (fun _ _ _ _ _ => pg_name (i := 5) sc_traits_of.nd rfl (Or.inl rfl)) (fun _ _ _ _ _ => pts_nil)
      (fun _ _ _ _ _ => by exact (pe_ix ix_tup (pv 5) (pe_glob (v := .int 2) rfl m2 ⟨_, rfl⟩) (fun _ _ => rfl))))
    (pss_cons (ps_set (i := 3) sc_traits_of.nd rfl (.inl rfl) (pe_lst pa_nil))
    (pss_cons (ps_for PassesOwn.never rfl (pi_list (pv 2)) (pg_name (i := 4) sc_traits_of.nd rfl (.inl rfl))
      (pss_one (ps_expr (pe_bm PySem.F.plainAttrs_list PySem.F.slot_list_extend PySem.F.type_list_extend mt_extend (pv 3) (pa_cons (pe_def D1 hr pass0 (pa_cons (pv 4) pa_nil)) pa_nil)))))
    (pss_one (ps_ret (pe_tup (by exact (pa_cons (pe_lst (by exact (pa_cons (pe_callTy call_tuple_of (by rfl) mT (by decide +kernel) (by exact (pa_cons (pe_ix ix_tup (pe_fld (pv 0) rfl) pe_int (fun _ _ => rfl)) pa_nil))) pa_nil)))
      (pa_cons (pv 1) (pa_cons (pv 2) (pa_cons (pv 3) (pa_cons (pe_slice sl_list (pv 2) po_none (po_some pe_int)) (pa_cons (pe_slice sl_list (pv 2) (po_some (pe_un un_neg pe_int)) po_none) (pa_cons (pv 2) pa_nil)))))))))))))), ?_⟩
  obtain ⟨S, a, x, rfl, hS, ⟨dx, t, pp, q1, q2, q3, e1, e2, e3, e4, e5, ⟨cs, hcs, pc⟩⟩, ⟨hx8, hxg⟩, k⟩ := h
  obtain ⟨fs, gs, pf, pg, lf, lg, hc⟩ := pcs_parts pc
  have lc := Paired.length pc
  have e1 := Hd.sub _ _ e1
  have e2 := Hd.sub _ _ e2
  have hcs := Hd.sub _ _ hcs
  -- forms
  refine ⟨_, rfl, a, A.Word, dx, _, _, rfl, e1, RW.cl, RW.n2, lk2 RW.ne, pp, rfl, ⟨_, .of hcs⟩, fun Df nf => ?_⟩
  refine lc_it (walk_list (K := K) (a := pp) (xs := cs.map V.ref)) (fun i H' => H' = upd H Df (.lst ((fs.take i).map V.ref))) rfl ?_ ?_ ?_
  · rintro i H' hi rfl
    exact .of ((Same.new nf) _ _ hcs)
  · rintro i v H1 H2 hi rfl ⟨rfl, hv⟩
    rw [List.getElem?_map] at hv
    obtain ⟨c, hc1, rfl⟩ := Option.map_eq_some_iff.mp hv
    obtain ⟨sv, f, g, g1, g2, g3⟩ := hc i c hc1
    refine ⟨rfl, yes_of ?_⟩
    refine ⟨_, rfl, c, _, _, _, rfl, rfl, .of ((Same.new nf) _ _ (Hd.sub _ _ g3)), atI_nat (j := 1) rfl, _, upd_same, ?_, ?_⟩
    · rw [List.length_map, List.length_take, sizeLine_eq]
      omega
    · rw [upd_upd, take_map_succ g1]
  rintro H1 rfl
  have nf1 : Same H (upd H Df (.lst ((fs.take (cs.map V.ref).length).map V.ref))) := Same.new nf
  have ef : fs.take (cs.map V.ref).length = fs := List.take_of_length_le (by rw [List.length_map]; omega)
  rw [ef] at nf1 ⊢
  have hDf : upd H Df (.lst (fs.map V.ref)) Df = some (.lst (fs.map V.ref)) := upd_same
  have hnS : ¬ S Df := notS hS nf
  generalize upd H Df (.lst (fs.map V.ref)) = H1 at *
  -- glosses
  refine ⟨_, rfl, a, A.Word, dx, _, _, rfl, nf1 _ _ e1, RW.cl, RW.n2, lk2 RW.ne, pp, rfl, ⟨_, .of (nf1 _ _ hcs)⟩, fun Dg ng => ?_⟩
  refine lc_it (walk_list (K := K) (a := pp) (xs := cs.map V.ref)) (fun i H' => H' = upd H1 Dg (.lst ((gs.take i).map V.ref))) rfl ?_ ?_ ?_
  · rintro i H' hi rfl
    exact .of ((Same.new ng) _ _ (nf1 _ _ hcs))
  · rintro i v H3 H2 hi rfl ⟨rfl, hv⟩
    rw [List.getElem?_map] at hv
    obtain ⟨c, hc1, rfl⟩ := Option.map_eq_some_iff.mp hv
    obtain ⟨sv, f, g, g1, g2, g3⟩ := hc i c hc1
    refine ⟨rfl, yes_of ?_⟩
    refine ⟨_, rfl, c, _, _, _, rfl, rfl, .of ((Same.new ng) _ _ (nf1 _ _ (Hd.sub _ _ g3))), atI_nat (j := 2) rfl, _, upd_same, ?_, ?_⟩
    · rw [List.length_map, List.length_take, sizeLine_eq]
      omega
    · rw [upd_upd, take_map_succ g2]
  rintro H2 rfl
  have eg : gs.take (cs.map V.ref).length = gs := List.take_of_length_le (by rw [List.length_map]; omega)
  rw [eg]
  have ng1 : Same H1 (upd H1 Dg (.lst (gs.map V.ref))) := Same.new ng
  have hDg : upd H1 Dg (.lst (gs.map V.ref)) Dg = some (.lst (gs.map V.ref)) := upd_same
  have hnSg : ¬ S Dg := notS hS (nf1.free ng)
  have s02 := nf1.trans ng1
  have hDf2 := ng1 _ _ hDf
  generalize upd H1 Dg (.lst (gs.map V.ref)) = H2 at *
  -- parts
  refine ⟨Nat.zero_le _, fun Dp nDp => ?_⟩
  have s23 : Same H2 (upd H2 Dp (.lst [])) := Same.new nDp
  have hnSp : ¬ S Dp := notS hS (s02.free nDp)
  have hgl : ∀ g ∈ gls x, g.length ≤ 7000 := fun g hg => by
    obtain ⟨p, hp, rfl⟩ := List.mem_map.mp hg
    exact hxg p hp
  have lgl : (gls x).length = x.pieces.length := by unfold gls; rw [List.length_map]
  refine ⟨_, rfl, Dg, rfl, ⟨_, .of (s23 _ _ hDg)⟩, ?_⟩
  refine for_it (walk_list (K := K) (a := Dg) (xs := gs.map V.ref)) (fun i σ H' => ∃ (v4 : Option V) (qs : List Addr), σ = [some (.ref a), some (.ref Df), some (.ref Dg), some (.ref Dp), v4, none] ∧ Same H2 H' ∧ H' Dp = some (.lst (qs.map V.ref)) ∧
    Paired (fun q b => Hd (And1 S Dp) H' q = some (.tup (nis b))) qs (((gls x).take i).flatMap dotp)) ?_ ?_ ?_ ?_
  · exact ⟨none, [], rfl, s23, upd_same, by rw [List.take_zero]; exact .nil⟩
  · rintro i σ H' hi ⟨v4, qs, _, s3, _⟩
    exact .of (s3 _ _ hDg)
  · rintro i v σ H3 H4 hi ⟨v4, qs, rfl, s3, hp, pq⟩ ⟨rfl, hv⟩
    rw [List.getElem?_map] at hv
    obtain ⟨c, hc1, rfl⟩ := Option.map_eq_some_iff.mp hv
    obtain ⟨gb, gb1, gb2⟩ := paired_get pg hc1
    have gb1 : (gls x)[i]? = some gb := gb1
    have hgb := hgl gb (List.mem_of_getElem? gb1)
    refine ⟨_, rfl, .inl ⟨rfl, _, .of hp⟩, ?_⟩
    have hSp : ∀ b, And1 S Dp b → H4 b ≠ none := and1_S (up_S hS (s02.trans s3)) hp
    refine ⟨_, rfl, And1 S Dp, c, gb, rfl, hSp, Hd.to1 (s02.trans s3) (s02.free nDp) _ _ gb2, hgb, fun H5 p5 s5 np5 ⟨rs, er, pr⟩ => ?_⟩
    have er := Hd.sub _ _ er
    have lq := Paired.length pq
    have lr := Paired.length pr
    have ltk := parts_len ((gls x).take i) fun g hg => hgl g (List.mem_of_mem_take hg)
    have ltk2 : ((gls x).take i).length ≤ 8 := by rw [List.length_take]; omega
    have ldp := dotp_len gb
    refine ⟨Dp, p5, _, _, rfl, rfl, s5 _ _ hp, er, ?_, ?_⟩
    · rw [List.length_map, List.length_map, sizeLine_eq]
      omega
    refine ⟨_, qs ++ rs, rfl, Same.put (s3.trans s5) nDp, ?_, ?_⟩
    · rw [upd_same, List.map_append]
    · rw [Hd.updS (.inr rfl), List.take_add_one, gb1, List.flatMap_append]
      refine paired_app (Paired.mapP pq fun _ _ z => Hd.mono s5 _ _ z) ?_
      simpa using pr
  rintro σ H3 ⟨v4, qs, rfl, s3, hp, pq⟩
  rw [List.length_map, lg, lc, ← lgl, List.take_length] at pq
  have s03 := s02.trans s3
  have hDf3 := s3 _ _ hDf2
  have hDg3 := s3 _ _ hDg
  have pq := Paired.mapP pq (G := fun q b => Hd S H3 q = some (.tup (nis b))) fun _ _ z => Hd.wk1 _ _ z
  -- the tuple
  refine ⟨_, rfl, a, A.Word, dx, _, _, rfl, s03 _ _ e1, RW.cl, RW.n1, lk1, t, _, _, _, rfl, rfl, .of (s03 _ _ e2), atI_nat (j := 0) rfl, q1, _, rfl, .inl ⟨.of (s03 _ _ (Hd.sub _ _ e3)), fun T0 nT0 => ?_⟩⟩
  have s4 : Same H3 (upd H3 T0 (.tup (nis x.text))) := Same.new nT0
  have nT := notS hS (s03.free nT0)
  have hT0 : upd H3 T0 (.tup (nis x.text)) T0 = some (.tup (nis x.text)) := upd_same
  generalize upd H3 T0 (.tup (nis x.text)) = H4 at *
  refine ⟨by show 1 ≤ sizeLine; decide, fun L0 nL0 => ?_⟩
  have s5 : Same H4 (upd H4 L0 (.lst [.ref T0])) := Same.new nL0
  have s05 := s03.trans (s4.trans s5)
  have nL := notS hS ((s03.trans s4).free nL0)
  have hL0 : upd H4 L0 (.lst [.ref T0]) L0 = some (.lst [.ref T0]) := upd_same
  generalize upd H4 L0 (.lst [.ref T0]) = H5 at *
  have s35 := s4.trans s5
  refine ⟨_, rfl, _, rfl, _, rfl, _, rfl, _, rfl, Dg, _, rfl, .of (s35 _ _ hDg3), fun D4 n4 => ?_⟩
  rw [cut_first]
  have s6 : Same H5 (upd H5 D4 (.lst ((gs.take 1).map V.ref))) := Same.new n4
  have n4S := notS hS (s05.free n4)
  have hD4 : upd H5 D4 (.lst ((gs.take 1).map V.ref)) D4 = some (.lst ((gs.take 1).map V.ref)) := upd_same
  generalize upd H5 D4 (.lst ((gs.take 1).map V.ref)) = H6 at *
  have s06 := s05.trans s6
  refine ⟨_, rfl, _, rfl, _, rfl, Dg, _, rfl, .of (s6 _ _ (s35 _ _ hDg3)), fun D5 n5 => ?_⟩
  have ecl : cutV (gs.map V.ref) (some (-1)) none = (gs.drop (gs.length - 1)).map V.ref := cut_last gs
  rw [ecl]
  have s7 : Same H6 (upd H6 D5 (.lst ((gs.drop (gs.length - 1)).map V.ref))) := Same.new n5
  have n5S := notS hS (s06.free n5)
  have hD5 : upd H6 D5 (.lst ((gs.drop (gs.length - 1)).map V.ref)) D5 = some (.lst ((gs.drop (gs.length - 1)).map V.ref)) := upd_same
  generalize upd H6 D5 (.lst ((gs.drop (gs.length - 1)).map V.ref)) = H7 at *
  have s07 := s06.trans s7
  refine ⟨_, rfl, by show 7 ≤ sizeLine; decide, fun T nT7 => ?_⟩
  have s8 : Same H7 (upd H7 T (.tup [.ref L0, .ref Df, .ref Dg, .ref Dp, .ref D4, .ref D5, .ref Dg])) := Same.new nT7
  have s08 := s07.trans s8
  have s38 := s35.trans (s6.trans (s7.trans s8))
  refine k _ T s08 (s07.free nT7) ⟨[L0, Df, Dg, Dp, D4, D5, Dg], Hd.of (notS hS (s07.free nT7)) upd_same, ?_⟩
  have M8 : Same (Hd S H) (Hd S (upd H7 T (.tup [.ref L0, .ref Df, .ref Dg, .ref Dp, .ref D4, .ref D5, .ref Dg]))) := Hd.mono s08
  have bg : BTs (Hd S (upd H7 T (.tup [.ref L0, .ref Df, .ref Dg, .ref Dp, .ref D4, .ref D5, .ref Dg]))) Dg (gls x) := ⟨gs, Hd.of hnSg (s38 _ _ hDg3), Paired.mapP pg fun _ _ z => M8 _ _ z⟩
  have pg8 : Paired (fun q b => Hd S (upd H7 T (.tup [.ref L0, .ref Df, .ref Dg, .ref Dp, .ref D4, .ref D5, .ref Dg])) q = some (.tup (nis b))) gs (gls x) := Paired.mapP pg fun _ _ z => M8 _ _ z
  have lgs : gs.length = (gls x).length := Paired.length pg8
  refine .cons ⟨[T0], Hd.of nL ((s6.trans (s7.trans s8)) _ _ hL0), .cons (Hd.of nT ((s5.trans (s6.trans (s7.trans s8))) _ _ hT0)) .nil⟩ (.cons ⟨fs, Hd.of hnS (s38 _ _ hDf3), Paired.mapP pf fun _ _ z => M8 _ _ z⟩ (.cons bg (.cons ⟨qs, Hd.of hnSp (s38 _ _ hp), Paired.mapP pq fun _ _ z => Hd.mono s38 _ _ z⟩
    (.cons ⟨gs.take 1, Hd.of n4S ((s7.trans s8) _ _ hD4), paired_take 1 pg8⟩ (.cons ⟨gs.drop (gs.length - 1), Hd.of n5S (s8 _ _ hD5), ?_⟩ (.cons bg .nil))))))
  rw [← lgs]
  exact paired_dropN _ pg8
end
end G

end

section
set_option Elab.async false
set_option linter.all false
set_option maxRecDepth 100000
set_option maxHeartbeats 4000000
namespace G
open PySem PySem.Spec PyProof.Rows L2 GR
/-- a call's reading -/
def teCall (sp : Sp) (t : TA) : TE := fun σ H Q => t σ H fun vs H1 => sp vs H1 Q E0
def spTraitsW (A : Adr) : Sp := fun vs H Q _ => ∃ (S : Addr → Prop) (p : Addr) (ws : List Wd), vs = [.ref p] ∧ (∀ b, S b → H b ≠ none) ∧ Wds A.Word (Hd S H) p ws ∧ ws.length ≤ 30 ∧ (∀ x ∈ ws, WdOk x) ∧
  ∀ H' q, Same H H' → H q = none → TrWs (Hd S H') q ws → Q (.ref q) H'
def spTrait : Sp := fun vs H Q _ => ∃ (t sg : Addr) (x : Wd) (k : Nat) (b : Bytes), vs = [.ref t, ni k, .ref sg] ∧ TrAt H t x ∧ k ≤ 6 ∧ H sg = some (.tup (nis b)) ∧ Q (.bl ((⟨k, b⟩ : Sx05.Want).holds x)) H
section
variable {P : Program} {w : World} {K : PySem.W.Frag} {mg : Str → Option Value} {base : Heap} {A : Adr} {f1 : Addr}
theorem sc_traits_of_words : FnScope ["words", "word"] ["words"] (defScope s_traits_of_words) := ⟨rfl, rfl, rfl, by decide +kernel, rfl, by decide +kernel, by decide +kernel⟩
theorem ok_traits_of_words {f : Addr} {fd : FuncData} (F : Fun K "traits_of_words" "traits_of_words" s_traits_of_words f fd) (D1 : Def P w K mg base CX0 5 "traits_of" f1 ["word"] (spTraits A)) : FnOk P w K mg base CX0 6 f fd ["words"] (spTraitsW A) := by
  refine F.ok sc_traits_of_words (fun vs H Q E h => ?_) (fun cdv Ar outer s H vs Q E hr h => ?_)
  · obtain ⟨S, p, ws, rfl, _⟩ := h
    rfl
  refine ⟨_, pss_one (ps_ret (pe_lc (own := [("word", 1)]) (g := gName 1) (tt := tYes) (te := teCall (spTraits A) (tCons (tVar 1) tNil)) rfl sc_traits_of_words.nd
      (pi_list (pv 0)) (blkOk_by (N := ["words", "word"]) (sc := defScope s_traits_of_words) (by decide +kernel))
      (fun _ _ _ _ _ => pg_name (i := 1) sc_traits_of_words.nd rfl (Or.inl rfl)) (fun _ _ _ _ _ => pts_nil)
      (fun _ _ _ _ _ => by exact (pe_def D1 hr pass0 (pa_cons (pv 1) pa_nil))))), ?_⟩
  obtain ⟨S, p, ws, rfl, hS, ⟨as, hp, pr⟩, hl, hok, k⟩ := h
  have hp := Hd.sub _ _ hp
  have la := Paired.length pr
  refine ⟨_, rfl, p, rfl, ⟨_, .of hp⟩, fun D nD => ?_⟩
  have sD : Same H (upd H D (.lst [])) := Same.new nD
  refine lc_it (walk_list (K := K) (a := p) (xs := as.map V.ref)) (fun i H' => ∃ bs : List Addr, Same H H' ∧ H' D = some (.lst (bs.map V.ref)) ∧ Paired (TrAt (Hd (And1 S D) H')) bs (ws.take i)) ?_ ?_ ?_ ?_
  · exact ⟨[], sD, upd_same, by rw [List.take_zero]; exact .nil⟩
  · rintro i H' hi ⟨bs, s1, _⟩
    exact .of (s1 _ _ hp)
  · rintro i v H1 H2 hi ⟨bs, s1, hD, pb⟩ ⟨rfl, hv⟩
    rw [List.getElem?_map] at hv
    obtain ⟨a, ha1, rfl⟩ := Option.map_eq_some_iff.mp hv
    obtain ⟨x, hx1, hx2⟩ := paired_get pr ha1
    refine ⟨rfl, yes_of ?_⟩
    refine ⟨_, rfl, And1 S D, a, x, rfl, and1_S (up_S hS s1) hD, hx2.same (Hd.to1 s1 nD), hok x (List.mem_of_getElem? hx1), fun H3 q s3 nq ht => ?_⟩
    have lb := Paired.length pb
    refine ⟨_, s3 _ _ hD, ?_, bs ++ [q], Same.put (s1.trans s3) nD, ?_, ?_⟩
    · rw [List.length_map, lb, List.length_take, sizeLine_eq]
      omega
    · rw [upd_same, List.map_append]
      rfl
    · rw [Hd.updS (.inr rfl), List.take_add_one, hx1]
      exact paired_snoc (Paired.mapP pb fun _ _ z => z.same (Hd.mono s3)) ht
  rintro H1 ⟨bs, s1, hD, pb⟩
  rw [List.length_map, la, List.take_length] at pb
  exact k _ D s1 nD ⟨bs, Hd.of (notS hS nD) hD, Paired.mapP pb fun _ _ z => z.same Hd.wk1⟩
theorem sc_has_trait : FnScope ["traits", "kind", "signs"] ["traits", "kind", "signs"] (defScope s_has_trait) := ⟨rfl, rfl, rfl, by decide +kernel, rfl, by decide +kernel, by decide +kernel⟩
theorem ok_has_trait {f : Addr} {fd : FuncData} (F : Fun K "has_trait" "has_trait" s_has_trait f fd) {t6 : Tok} (m6 : mg "KIND_OF_NONE" = some (.int 6 t6)) : FnOk P w K mg base CX0 1 f fd ["traits", "kind", "signs"] spTrait := by
  refine F.ok sc_has_trait (fun vs H Q E h => ?_) (fun cdv Ar outer s H vs Q E hr h => ?_)
  · obtain ⟨t, sg, x, k, b, rfl, _⟩ := h
    rfl
  refine ⟨_, pss_one (ps_ret (pe_cmpR op_eq (pe_cmpR (op_inD (units65 hr)) (pv 2) (pe_ix ix_tup (pv 0) (pv 1) (fun _ _ => rfl)) rfl) (pe_cmpR op_ne (pv 1) (pe_glob (v := .int 6) rfl m6 ⟨_, rfl⟩) (nomark _)) (nomark _))), ?_⟩
  obtain ⟨t, sg, x, k, b, rfl, ⟨ps, ht, pr⟩, hk, hb, q⟩ := h
  obtain ⟨bs, h1, h2⟩ := want_is ⟨k, b⟩ x hk
  obtain ⟨pa, hpa, ⟨qs, hq, pq⟩⟩ := paired_getR pr h1
  have hat : (ps.map V.ref)[k]? = some (.ref pa) := by rw [List.getElem?_map, hpa]; rfl
  refine ⟨_, rfl, _, rfl, _, rfl, t, _, _, _, rfl, rfl, .of ht, atI_nat hat, dTp b, bs.map dTp, dp_dTp hb, .lst (.of hq) (dp_dTps pq), shaped_dTp _, shaped_dTps _, _, rfl, rfl, rfl, ?_⟩
  rw [any_dTp]
  rw [h2] at q
  have e : decide (V.bl (bs.contains b) = V.bl (!decide (V.int (k : Int) = V.int 6))) = (bs.contains b == !decide (k = 6)) := by
    have e1 : decide (V.int (k : Int) = V.int 6) = decide (k = 6) := by
      by_cases h : k = 6
      · subst h
        rfl
      · rw [decide_eq_false h, decide_eq_false]
        intro z
        have := V.int.inj z
        omega
    rw [e1]
    generalize bs.contains b = c
    generalize (!decide (k = 6)) = d
    cases c <;> cases d <;> rfl
  rw [e]
  exact q
end
end G

end

section
set_option Elab.async false
set_option linter.all false
set_option maxRecDepth 100000
set_option maxHeartbeats 4000000
namespace G
open PySem PySem.Spec PyProof.Rows L2 GR
/-! ### dicts of numbers by bytes -/
def keyB (b : Bytes) : List L2.Key := b.map fun n : Nat => Sum.inl (n : Int)
theorem keyB_kV (b : Bytes) : (keyB b).map kV = nis b := by
  unfold keyB nis
  rw [List.map_map]
  rfl
theorem keyB_inj : ∀ {a b : Bytes}, keyB a = keyB b → a = b
  | [], [], _ => rfl
  | [], _ :: _, h => by cases h
  | _ :: _, [], h => by cases h
  | x :: a, y :: b, h => by
    have h' : (Sum.inl (x : Int) : L2.Key) :: keyB a = Sum.inl (y : Int) :: keyB b := h
    obtain ⟨h1, h2⟩ := List.cons.inj h'
    have h3 := Sum.inl.inj h1
    rw [keyB_inj h2, Int.ofNat.inj h3]
def zipD (as : List Addr) (G : Grp) : List (List L2.Key × V) := (as.zip G).map fun x => (keyB x.2.1, V.ref x.1)
abbrev LsAt (H : Hp) (a : Addr) (z : Bytes × List Nat) : Prop := H a = some (.lst (nis z.2))
def NumD (H : Hp) (d : Addr) (G : Grp) : Prop := ∃ as : List Addr, H d = some (.dT (zipD as G)) ∧ Paired (LsAt H) as G
theorem NumD.same {H H' : Hp} (s : Same H H') {d : Addr} {G : Grp} (h : NumD H d G) : NumD H' d G := by
  obtain ⟨as, e, r⟩ := h
  exact ⟨as, s _ _ e, Paired.mapP r fun _ _ z => s _ _ z⟩
theorem zipD_len {as : List Addr} {G : Grp} (h : as.length = G.length) : (zipD as G).length = G.length := by
  unfold zipD
  rw [List.length_map, List.length_zip]
  omega
/-- what a key has -/
theorem zipD_at {F : Addr → Bytes × List Nat → Prop} {b : Bytes} : ∀ {as : List Addr} {G : Grp}, Paired F as G → (gat G b = none ∧ valV (zipD as G) (keyB b) = none) ∨ ∃ a l, gat G b = some l ∧ valV (zipD as G) (keyB b) = some (.ref a) ∧ F a (b, l) ∧ a ∈ as ∧ (b, l) ∈ G
  | _, _, .nil => .inl ⟨rfl, rfl⟩
  | _, _, .cons (l₁ := as) (l₂ := G) (a := a) (b := z) r t => by
    by_cases h : z.1 = b
    · refine .inr ⟨a, z.2, ?_, ?_, ?_, List.mem_cons_self, ?_⟩
      · unfold gat
        simp [List.find?_cons, h]
      · exact valV_pos (by show keyB z.1 = _; rw [h])
      · have e : (b, z.2) = z := by rw [← h]
        rw [e]
        exact r
      · have e : (b, z.2) = z := by rw [← h]
        rw [e]
        exact List.mem_cons_self
    · have hk : ¬ keyB z.1 = keyB b := fun q => h (keyB_inj q)
      have g1 : gat (z :: G) b = gat G b := by
        unfold gat
        simp [List.find?_cons, h]
      have g2 : valV (zipD (a :: as) (z :: G)) (keyB b) = valV (zipD as G) (keyB b) := by
        show valV ((keyB z.1, V.ref a) :: zipD as G) (keyB b) = _
        unfold valV
        simp [List.find?_cons, hk]
      rw [g1, g2]
      rcases zipD_at (b := b) t with h1 | ⟨a', l, h1, h2, h3, h4, h5⟩
      · exact .inl h1
      · exact .inr ⟨a', l, h1, h2, h3, List.mem_cons_of_mem _ h4, List.mem_cons_of_mem _ h5⟩
def gup (b : Bytes) (n : Nat) (z : Bytes × List Nat) : Bytes × List Nat := if z.1 = b then (z.1, z.2 ++ [n]) else z
theorem zipD_gup {b : Bytes} {n : Nat} : ∀ {as : List Addr} {G : Grp}, zipD as (G.map (gup b n)) = zipD as G
  | [], _ => rfl
  | _ :: _, [] => rfl
  | a :: as, z :: G => by
    show (keyB (gup b n z).1, V.ref a) :: zipD as (G.map (gup b n)) = (keyB z.1, V.ref a) :: zipD as G
    rw [zipD_gup]
    congr 2
    unfold gup
    split <;> rfl
theorem gup_id {b : Bytes} {n : Nat} : ∀ {G : Grp}, b ∉ G.map (·.1) → G.map (gup b n) = G
  | [], _ => rfl
  | z :: G, h => by
    rw [List.map_cons, List.mem_cons] at h
    rw [List.map_cons, gup_id fun q => h (.inr q)]
    congr 1
    unfold gup
    rw [if_neg fun q => h (.inl q.symm)]
/-- one list more in its place -/
theorem gup_ok {H0 H : Hp} {b : Bytes} {n : Nat} {a0 : Addr} {l0 : List Nat} : ∀ {as : List Addr} {G : Grp}, Paired (fun a z => LsAt H a z ∧ H0 a = none) as G → as.Nodup → (G.map (·.1)).Nodup → valV (zipD as G) (keyB b) = some (.ref a0) → gat G b = some l0 →
    Paired (fun a z => LsAt (upd H a0 (.lst (nis (l0 ++ [n])))) a z ∧ H0 a = none) as (G.map (gup b n))
  | _, _, .nil, _, _, h, _ => by cases h
  | _, _, .cons (l₁ := as) (l₂ := G) (a := a) (b := z) r t, h1, h2, h3, h4 => by
    obtain ⟨h1a, h1b⟩ := List.nodup_cons.mp h1
    rw [List.map_cons] at h2
    obtain ⟨h2a, h2b⟩ := List.nodup_cons.mp h2
    by_cases h : z.1 = b
    · have e3 : valV (zipD (a :: as) (z :: G)) (keyB b) = some (.ref a) := valV_pos (by show keyB z.1 = _; rw [h])
      rw [e3] at h3
      cases h3
      have e4 : gat (z :: G) b = some z.2 := by
        unfold gat
        simp [List.find?_cons, h]
      rw [e4] at h4
      cases h4
      rw [List.map_cons, gup_id (by rw [← h]; exact h2a)]
      refine .cons ⟨?_, r.2⟩ ?_
      · unfold gup
        rw [if_pos h]
        exact upd_same
      · have sub : ∀ {as' : List Addr} {G' : Grp}, Paired (fun a z => LsAt H a z ∧ H0 a = none) as' G' → (∀ x ∈ as', x ∈ as) → Paired (fun c y => LsAt (upd H a0 (.lst (nis (z.2 ++ [n])))) c y ∧ H0 c = none) as' G' := by
          intro as' G' q
          induction q with
          | nil => exact fun _ => .nil
          | cons r t ih =>
            intro hs
            refine .cons ⟨?_, r.2⟩ (ih fun x hx => hs x (List.mem_cons_of_mem _ hx))
            show upd H a0 _ _ = _
            rw [upd_ne fun q => h1a (by rw [← q]; exact hs _ List.mem_cons_self)]
            exact r.1
        exact sub t fun x hx => hx
    · have hk : ¬ keyB z.1 = keyB b := fun q => h (keyB_inj q)
      have g1 : gat (z :: G) b = gat G b := by
        unfold gat
        simp [List.find?_cons, h]
      have g2 : valV (zipD (a :: as) (z :: G)) (keyB b) = valV (zipD as G) (keyB b) := by
        show valV ((keyB z.1, V.ref a) :: zipD as G) (keyB b) = _
        unfold valV
        simp [List.find?_cons, hk]
      rw [g2] at h3
      rw [g1] at h4
      have hne : a ≠ a0 := by
        rcases zipD_at (b := b) t with ⟨_, q⟩ | ⟨a', l, _, q, _, hm, _⟩
        · rw [q] at h3
          cases h3
        · rw [q] at h3
          cases h3
          exact fun q => h1a (q ▸ hm)
      rw [List.map_cons]
      refine .cons ⟨?_, r.2⟩ (gup_ok t h1b h2b h3 h4)
      unfold gup
      rw [if_neg h]
      show upd H a0 _ a = _
      rw [upd_ne hne]
      exact r.1
theorem dups_nodup : ∀ (n : Nat) (l : List Bytes), l.length ≤ n → l.eraseDups.Nodup
  | _, [], _ => by rw [List.eraseDups_nil]; exact List.nodup_nil
  | 0, _ :: _, h => by simp at h
  | n + 1, a :: l, h => by
    rw [List.eraseDups_cons]
    refine List.nodup_cons.mpr ⟨fun q => ?_, dups_nodup n _ ?_⟩
    · have := (List.mem_filter.mp (List.mem_eraseDups.mp q)).2
      simp at this
    · have := List.length_filter_le (fun b => !b == a) l
      rw [List.length_cons] at h
      omega
theorem grp_nodup {α : Type} (key : α → Bytes) (L : List (Nat × α)) : ((grp key L).map (·.1)).Nodup := by
  unfold grp
  rw [List.map_map]
  have e : ((fun x : Bytes × List Nat => x.1) ∘ fun b => (b, (L.filter fun x => key x.2 == b).map (·.1))) = id := rfl
  rw [e, List.map_id]
  exact dups_nodup _ _ (Nat.le_refl _)
theorem grp_len {α : Type} (key : α → Bytes) : ∀ (n : Nat) (L : List (Nat × α)), L.length = n → (grp key L).length ≤ n
  | 0, L, h => by
    rw [List.length_eq_zero_iff.mp h]
    exact Nat.le_refl _
  | n + 1, L, h => by
    obtain ⟨M, x, rfl⟩ : ∃ M x, L = M ++ [x] := by
      refine ⟨L.dropLast, L.getLast (fun z => by rw [z] at h; cases h), (List.dropLast_concat_getLast _).symm⟩
    rw [List.length_append] at h
    have ih := grp_len key n M (by simpa using h)
    rw [grp_snoc]
    have := gput_len (grp key M) (key x.2) x.1
    omega
/-! ### numbers_by -/
def NmAt (H : Hp) (t : Addr) (x : Nat × Pie) : Prop := ∃ a, H t = some (.tup [ni x.1, .ref a]) ∧ PcAt H a x.2
theorem NmAt.same {H H' : Hp} (s : Same H H') {t : Addr} {x : Nat × Pie} (h : NmAt H t x) : NmAt H' t x := by
  obtain ⟨a, e, r⟩ := h
  exact ⟨a, s _ _ e, r.same s⟩
def spNumBy : Sp := fun vs H Q _ => ∃ (part : Nat) (key : Pie → Bytes) (q : Addr) (ts : List Addr) (L : List (Nat × Pie)), vs = [ni part, .ref q] ∧ ((part = 1 ∧ key = fun p => p.form) ∨ (part = 2 ∧ key = fun p => p.gloss)) ∧ H q = some (.lst (ts.map V.ref)) ∧ Paired (NmAt H) ts L ∧ L.length ≤ 14400 ∧
  ∀ H' d, Same H H' → H d = none → NumD (New H H') d (grp key L) → Q (.ref d) H'
section
variable {P : Program} {w : World} {K : PySem.W.Frag} {mg : Str → Option Value} {base : Heap} {A : Adr}
theorem sc_numbers_by : FnScope ["part", "numbered", "numbers", "number", "piece"] ["part", "numbered"] (defScope s_numbers_by) := ⟨rfl, rfl, rfl, by decide +kernel, rfl, by decide +kernel, by decide +kernel⟩
theorem ok_numbers_by {f : Addr} {fd : FuncData} (F : Fun K "numbers_by" "numbers_by" s_numbers_by f fd) : FnOk P w K mg base CX0 1 f fd ["part", "numbered"] spNumBy := by
  refine F.ok sc_numbers_by (fun vs H Q E h => ?_) (fun cdv Ar outer s H vs Q E hr h => ?_)
  · obtain ⟨part, key, q, ts, L, rfl, _⟩ := h
    rfl
  refine ⟨_, pss_cons (ps_set (i := 2) sc_numbers_by.nd rfl (.inl rfl) pe_dnewT)
    (pss_cons (ps_for PassesOwn.never rfl (pi_list (pv 1)) (pg_tup rfl (pgs_cons (pg_name (i := 3) sc_numbers_by.nd rfl (.inl rfl)) (pgs_cons (pg_name (i := 4) sc_numbers_by.nd rfl (.inl rfl)) pgs_nil)))
      (pss_one (ps_expr (pe_bm PySem.F.plainAttrs_list PySem.F.slot_list_append PySem.F.type_list_append mt_append (pe_tsetd (hu_of hr) (pv 2) (pe_ix ix_tup (pv 4) (pv 0) (fun _ _ => rfl)) (pe_lst pa_nil) ⟨rfl, rfl, rfl, rfl⟩) (pa_cons (pv 3) pa_nil)))))
    (pss_one (ps_ret (pv 2)))), ?_⟩
  obtain ⟨part, key, q, ts, L, rfl, hkey, hq, pr, hL, k⟩ := h
  have lt := Paired.length pr
  intro d nd
  have s1 : Same H (upd H d (.dT [])) := Same.new nd
  refine ⟨_, rfl, q, rfl, ⟨_, .of (s1 _ _ hq)⟩, ?_⟩
  refine for_it (walk_list (K := K) (a := q) (xs := ts.map V.ref)) (fun i σ H' => ∃ (as : List Addr) (v3 v4 : Option V), σ = [some (ni part), some (.ref q), some (.ref d), v3, v4] ∧ Same H H' ∧ H' d = some (.dT (zipD as (grp key (L.take i)))) ∧
    Paired (fun a z => LsAt H' a z ∧ H a = none) as (grp key (L.take i)) ∧ as.Nodup) ?_ ?_ ?_ ?_
  · exact ⟨[], none, none, rfl, s1, upd_same, by rw [List.take_zero]; exact .nil, List.nodup_nil⟩
  · rintro i σ H' hi ⟨as, v3, v4, _, s2, _⟩
    exact .of (s2 _ _ hq)
  · rintro i v σ H1 H2 hi ⟨as, v3, v4, rfl, s2, hd, pa, nda⟩ ⟨rfl, hv⟩
    rw [List.getElem?_map] at hv
    obtain ⟨t, ht1, rfl⟩ := Option.map_eq_some_iff.mp hv
    obtain ⟨x, hx1, a, ha, hpc⟩ := paired_get pr ht1
    obtain ⟨ff, gg, e1, e2, e3⟩ := hpc
    rw [List.length_map] at hi
    refine ⟨t, _, rfl, .of (s2 _ _ ha), rfl, _, _, rfl, _, _, rfl, rfl, ?_⟩
    obtain ⟨kf, hkf, hat⟩ : ∃ kf, H kf = some (.tup (nis (key x.2))) ∧ atI [ni x.2.seam, .ref ff, .ref gg] (part : Int) = some (.ref kf) := by
      rcases hkey with ⟨rfl, rfl⟩ | ⟨rfl, rfl⟩
      · exact ⟨ff, e2, atI_nat (j := 1) rfl⟩
      · exact ⟨gg, e3, atI_nat (j := 2) rfl⟩
    refine ⟨_, rfl, d, rfl, .inr ⟨_, .inl hd⟩, _, rfl, _, rfl, a, _, _, _, rfl, rfl, .of (s2 _ _ e1), hat, Nat.zero_le _, fun z nz => ?_⟩
    have s3 : Same H2 (upd H2 z (.lst [])) := Same.new nz
    have s03 := s2.trans s3
    have hd3 := s3 _ _ hd
    have fz : H z = none := s2.free nz
    have hz3 : upd H2 z (.lst []) z = some (.lst []) := upd_same
    have pa3 := Paired.mapP pa (G := fun a y => LsAt (upd H2 z (.lst [])) a y ∧ H a = none) fun _ _ y => ⟨s3 _ _ y.1, y.2⟩
    have la := Paired.length pa
    have lg := grp_len key _ (L.take i) rfl
    have hzas : z ∉ as := fun y => by
      obtain ⟨j, hj⟩ := List.mem_iff_getElem?.mp y
      obtain ⟨b, _, hb⟩ := paired_get pa hj
      rw [hb.1] at nz
      cases nz
    have hdas : d ∉ as := fun y => by
      obtain ⟨j, hj⟩ := List.mem_iff_getElem?.mp y
      obtain ⟨b, _, hb⟩ := paired_get pa hj
      rw [hb.1] at hd
      cases hd
    have hdz : d ≠ z := fun y => by rw [y, nz] at hd; cases hd
    generalize upd H2 z (.lst []) = H3 at *
    have tk : L.take (i + 1) = L.take i ++ [x] := by rw [List.take_add_one, hx1]; rfl
    have ltk : (L.take i).length ≤ 14400 := by rw [List.length_take]; omega
    have hk3 : H3 kf = some (.tup ((keyB (key x.2)).map kV)) := by rw [keyB_kV]; exact s03 _ _ hkf
    have gsn := grp_snoc key (L.take i) x
    refine ⟨_, keyB (key x.2), kf, hd3, rfl, hk3, ?_, fun v hv => ?_, fun hv => ?_⟩
    · rw [zipD_len la]
      omega
    · rcases zipD_at (b := key x.2) pa3 with ⟨_, y⟩ | ⟨a0, l, g1, g2, g3, g4, g5⟩
      · rw [hv] at y
        cases y
      rw [hv] at g2
      cases g2
      have g3l : H3 a0 = some (.lst (nis l)) := g3.1
      have hll := grp_le g5
      have hll : l.length ≤ (L.take i).length := hll
      refine ⟨.inl ⟨rfl, _, .of g3l⟩, _, rfl, a0, _, _, rfl, rfl, g3l, ?_, ?_⟩
      · rw [nis_length, sizeLine_eq]
        omega
      have e : nis l ++ [ni x.1] = nis (l ++ [x.1]) := by unfold nis; rw [List.map_append]; rfl
      rw [e]
      have eG : grp key (L.take (i + 1)) = (grp key (L.take i)).map (gup (key x.2) x.1) := by
        rw [tk, gsn]
        unfold gput
        rw [g1]
        rfl
      have hda : d ≠ a0 := fun y => hdas (y ▸ g4)
      refine ⟨as, _, _, rfl, Same.put s03 g3.2, ?_, ?_, nda⟩
      · rw [upd_ne hda, hd3, eG, zipD_gup]
      · rw [eG]
        exact gup_ok pa3 nda (grp_nodup key _) hv g1
    · rcases zipD_at (b := key x.2) pa3 with ⟨g1, g2⟩ | ⟨a0, l, g1, g2, g3, g4, g5⟩
      case inr =>
        rw [hv] at g2
        cases g2
      have hz4 : upd H3 d (.dT (putK (zipD as (grp key (L.take i))) (keyB (key x.2)) (.ref z))) z = some (.lst []) := by
        rw [upd_ne (Ne.symm hdz)]
        exact hz3
      refine ⟨.inl ⟨rfl, _, .of hz4⟩, _, rfl, z, _, _, rfl, rfl, hz4, by rw [sizeLine_eq]; decide, ?_⟩
      have eG : grp key (L.take (i + 1)) = grp key (L.take i) ++ [(key x.2, [x.1])] := by
        rw [tk, gsn]
        unfold gput
        rw [g1]
        rfl
      refine ⟨as ++ [z], _, _, rfl, Same.put (Same.put s03 nd) fz, ?_, ?_, ?_⟩
      · rw [upd_ne hdz, upd_same, eG, putK_new _ hv]
        unfold zipD
        rw [List.zip_append la, List.map_append]
        rfl
      · rw [eG]
        have sub : ∀ {as' : List Addr} {G' : Grp}, Paired (fun a y => LsAt H3 a y ∧ H a = none) as' G' → (∀ y ∈ as', y ∈ as) → Paired (fun a y => LsAt (upd (upd H3 d (.dT (putK (zipD as (grp key (L.take i))) (keyB (key x.2)) (.ref z)))) z (.lst ([] ++ [ni x.1]))) a y ∧ H a = none) as' G' := by
          intro as' G' p
          induction p with
          | nil => exact fun _ => .nil
          | cons r t ih =>
            intro hs
            refine .cons ⟨?_, r.2⟩ (ih fun y hy => hs y (List.mem_cons_of_mem _ hy))
            show upd _ z _ _ = _
            have hm := hs _ List.mem_cons_self
            rw [upd_ne fun y => hzas (by rw [← y]; exact hm), upd_ne fun y => hdas (by rw [← y]; exact hm)]
            exact r.1
        exact paired_snoc (sub pa3 fun y hy => hy) ⟨upd_same, fz⟩
      · exact List.nodup_append.mpr ⟨nda, List.nodup_cons.mpr ⟨by simp, List.nodup_nil⟩, fun y hy y' hy' e => hzas (by rw [← List.mem_singleton.mp hy', ← e]; exact hy)⟩
  · rintro σ H1 ⟨as, v3, v4, rfl, s2, hd, pa, nda⟩
    rw [List.length_map, lt, List.take_length] at hd pa
    exact ⟨_, rfl, k _ d s2 nd ⟨as, (New.at nd).trans hd, Paired.mapP pa fun _ _ z => (New.at z.2).trans z.1⟩⟩
end
end G

end

section
set_option Elab.async false
set_option linter.all false
set_option maxRecDepth 100000
set_option maxHeartbeats 4000000
namespace G
open PySem PySem.Spec PyProof.Rows L2 GR
theorem putF1 (f : Str) (v : V) : putF f v [] = [(f, v)] := rfl
theorem putF2 {f g : Str} (u v : V) (h : ¬ f = g) : putF g v [(f, u)] = [(f, u), (g, v)] := by
  show (if f = g then _ else (f, u) :: putF g v []) = _
  rw [if_neg h]
  rfl
theorem putF3 {f g k : Str} (u v x : V) (h : ¬ f = k) (h' : ¬ g = k) : putF k x [(f, u), (g, v)] = [(f, u), (g, v), (k, x)] := by
  show (if f = k then _ else (f, u) :: putF k x [(g, v)]) = _
  rw [if_neg h, putF2 v x h']
section
variable {P : Program} {w : World} {K : PySem.W.Frag} {mg : Str → Option Value} {base : Heap} {A : Adr}
/-- the reading of an __init__ that lays two fields -/
theorem rec2_read {C : Addr} {f g : Str} (cl : Cls K C) (n1 : NoAttr K C f) (n2 : NoAttr K C g) (ne : ¬ f = g) {N : List Str} {vs : List V} {H : Hp} {Q : VK} {E : XK} (h : spRec2 C f g vs H Q E) (hN : N.length = 3) :
    (tSeq (sFld K (tVar 0) (tVar 1) f) (sFld K (tVar 0) (tVar 2) g)) { nx := fun _ H' => Q .non H', rt := Q } (start N vs) H := by
  obtain ⟨p, dx, x, y, rfl, hp, k⟩ := h
  have e : start N [.ref p, x, y] = [some (.ref p), some x, some y] := by
    unfold L2.start
    rw [hN]
    rfl
  rw [e]
  refine ⟨_, rfl, _, rfl, p, C, dx, _, rfl, hp, cl, n1, (by show 0 < 1000; decide), _, rfl, _, rfl, p, C, dx, _, rfl, upd_same, cl, n2, (by show 1 < 1000; decide), ?_⟩
  show Q .non _
  rw [upd_upd, putF1, putF2 _ _ ne]
  exact k
theorem sc_Row : FnScope ["self", "place", "signs"] ["self", "place", "signs"] (defScope s_Row) := ⟨rfl, rfl, rfl, by decide +kernel, rfl, by decide +kernel, by decide +kernel⟩
theorem ok_Row {f C : Addr} {fd : FuncData} (F : Fun K "__init__" "Row.__init__" s_Row f fd) (cl : Cls K C) (n1 : NoAttr K C "place") (n2 : NoAttr K C "signs") : FnOk P w K mg base CX0 1 f fd ["self", "place", "signs"] (spRec2 C "place" "signs") := by
  refine F.ok sc_Row (fun vs H Q E h => ?_) (fun cdv Ar outer s H vs Q E hr h => ⟨_, pss_cons (ps_fld (pv 0) (pv 1) rfl) (pss_one (ps_fld (pv 0) (pv 2) rfl)), rec2_read cl n1 n2 (by decide +kernel) h rfl⟩)
  obtain ⟨p, dx, x, y, rfl, _⟩ := h
  rfl
theorem sc_Word : FnScope ["self", "rows", "pieces"] ["self", "rows", "pieces"] (defScope s_Word) := ⟨rfl, rfl, rfl, by decide +kernel, rfl, by decide +kernel, by decide +kernel⟩
theorem ok_Word {f C : Addr} {fd : FuncData} (F : Fun K "__init__" "Word.__init__" s_Word f fd) (cl : Cls K C) (n1 : NoAttr K C "rows") (n2 : NoAttr K C "pieces") : FnOk P w K mg base CX0 1 f fd ["self", "rows", "pieces"] (spRec2 C "rows" "pieces") := by
  refine F.ok sc_Word (fun vs H Q E h => ?_) (fun cdv Ar outer s H vs Q E hr h => ⟨_, pss_cons (ps_fld (pv 0) (pv 1) rfl) (pss_one (ps_fld (pv 0) (pv 2) rfl)), rec2_read cl n1 n2 (by decide +kernel) h rfl⟩)
  obtain ⟨p, dx, x, y, rfl, _⟩ := h
  rfl
theorem sc_Item : FnScope ["self", "words", "free"] ["self", "words", "free"] (defScope s_Item) := ⟨rfl, rfl, rfl, by decide +kernel, rfl, by decide +kernel, by decide +kernel⟩
theorem ok_Item {f C : Addr} {fd : FuncData} (F : Fun K "__init__" "Item.__init__" s_Item f fd) (cl : Cls K C) (n1 : NoAttr K C "words") (n2 : NoAttr K C "free") : FnOk P w K mg base CX0 1 f fd ["self", "words", "free"] (spRec2 C "words" "free") := by
  refine F.ok sc_Item (fun vs H Q E h => ?_) (fun cdv Ar outer s H vs Q E hr h => ⟨_, pss_cons (ps_fld (pv 0) (pv 1) rfl) (pss_one (ps_fld (pv 0) (pv 2) rfl)), rec2_read cl n1 n2 (by decide +kernel) h rfl⟩)
  obtain ⟨p, dx, x, y, rfl, _⟩ := h
  rfl
end
theorem putFn {f k : Str} (u x : V) {r : List (Str × V)} (h : ¬ f = k) : putF k x ((f, u) :: r) = (f, u) :: putF k x r := by
  show (if f = k then _ else (f, u) :: putF k x r) = _
  rw [if_neg h]
theorem lkn {k f : Str} {u v : V} {r : List (Str × V)} (h : (k == f) = false) (e : List.lookup k r = some v) : List.lookup k ((f, u) :: r) = some v := by
  simp only [List.lookup, h]
  exact e
/-! ### Text -/
/-- what a text keeps beside its items and pieces -/
structure TxE where
  bf : Addr
  bg : Addr
  fs : Addr
  ot : Addr
  tr : Addr
def kNum (l : List Sx05.Item) : List (Nat × Pie) := num (Sx05.known l)
def isF (x : Nat × Pie) : Bool := decide (x.2.seam = 0)
def txF (p d kp : Addr) (X : TxE) : List (Str × V) := [("entries", .ref p), ("times", .ref d), ("known_pieces", .ref kp), ("by_form", .ref X.bf), ("by_gloss", .ref X.bg), ("firsts", .ref X.fs), ("others", .ref X.ot), ("traits", .ref X.tr)]
/-- the dicts -/
def DcAt (H : Hp) (X : TxE) (l : List Sx05.Item) : Prop := NumD H X.bf (gForm (kNum l)) ∧ NumD H X.bg (gGloss (kNum l)) ∧ NumD H X.fs (gForm ((kNum l).filter isF)) ∧ NumD H X.ot (gForm ((kNum l).filter fun x => !isF x))
theorem DcAt.same {H H' : Hp} (s : Same H H') {X : TxE} {l : List Sx05.Item} (h : DcAt H X l) : DcAt H' X l := ⟨h.1.same s, h.2.1.same s, h.2.2.1.same s, h.2.2.2.same s⟩
def TextAt (P : Program) (w : World) (A : Adr) (H : Hp) (a : Addr) (l : List Sx05.Item) : Prop := ∃ dx p d kp kvs X, H a = some (.ins A.Text dx (txF p d kp X)) ∧ Items A H p l ∧ H d = some (dN P w d kvs) ∧
  H kp = some (.lst (kvs.map fun y => V.ref y.2.1)) ∧ Tal H kvs (tally (Sx05.allPieces l)) ∧ kvs.length ≤ 14400 ∧ DcAt H X l ∧ TrsAt H X.tr l
theorem TextAt.same {P : Program} {w : World} {A : Adr} {H H' : Hp} (s : Same H H') {a : Addr} {l : List Sx05.Item} (h : TextAt P w A H a l) : TextAt P w A H' a l := by
  obtain ⟨dx, p, d, kp, kvs, X, e1, e2, e3, e4, e5, e6, e7, e8⟩ := h
  exact ⟨dx, p, d, kp, kvs, X, s _ _ e1, e2.same s, s _ _ e3, s _ _ e4, e5.same s, e6, e7.same s, e8.same s⟩
def spTextI (P : Program) (w : World) (A : Adr) : Sp := fun vs H Q _ => ∃ (S : Addr → Prop) (x dx p : Addr) (l : List Sx05.Item), vs = [.ref x, .ref p] ∧ S x ∧ (∀ b, S b → H b ≠ none) ∧ H x = some (.ins A.Text dx []) ∧ Items A (Hd S H) p l ∧ OkSt l ∧
  ∀ H' d kp kvs X, Same (Off H x) (Off H' x) → H' x = some (.ins A.Text dx (txF p d kp X)) → New H H' d = some (dN P w d kvs) → New H H' kp = some (.lst (kvs.map fun y => V.ref y.2.1)) →
    Tal (Hd S H) kvs (tally (Sx05.allPieces l)) → kvs.length ≤ 14400 → DcAt (New H H') X l → TrsAt (Hd S H') X.tr l → Q .non H'
theorem Hd.upd {S : Addr → Prop} {H : Hp} {x : Addr} {o : HO} (h : S x) : Hd S (L2.upd H x o) = Hd S H := Hd.updS h
/-- while the object at x is laid -/
structure Gw (H : Hp) (x : Addr) (H' : Hp) : Prop where
  sm : Same (Off H x) (Off H' x)
  hx : H' x ≠ none
theorem Gw.same {H H1 H2 : Hp} {x : Addr} (g : Gw H x H1) (s : Same H1 H2) : Gw H x H2 := ⟨g.sm.trans (Off.mono s), fun z => g.hx (s.free z)⟩
theorem Gw.upd {H H1 : Hp} {x : Addr} {o : HO} (g : Gw H x H1) : Gw H x (L2.upd H1 x o) := ⟨by rw [Off.upd]; exact g.sm, by rw [upd_same]; exact fun z => by cases z⟩
theorem Gw.free {H H1 : Hp} {x b : Addr} (g : Gw H x H1) (n : H1 b = none) : H b = none := by
  have hb : b ≠ x := fun z => g.hx (z ▸ n)
  have h1 : Off H1 x b = none := by rw [Off.ne hb]; exact n
  have h2 := g.sm.free h1
  rw [Off.ne hb] at h2
  exact h2
theorem Gw.hd {H H1 : Hp} {x : Addr} {S : Addr → Prop} (g : Gw H x H1) (h : S x) : Same (Hd S H) (Hd S H1) := fun b o e => by
  obtain ⟨g1, g2⟩ := Hd.inv e
  have hb : b ≠ x := fun z => g1 (z ▸ h)
  exact Hd.of g1 (Off.same _ _ (g.sm b o (by rw [Off.ne hb]; exact g2)))
theorem Gw.S {H H1 : Hp} {x : Addr} {S : Addr → Prop} (g : Gw H x H1) (hS : ∀ b, S b → H b ≠ none) : ∀ b, S b → H1 b ≠ none := fun b hb z => hS b hb (g.free z)
theorem Gw.new {H H1 H2 : Hp} {x : Addr} (g : Gw H x H1) : Same (New H1 H2) (New H H2) := fun b o e => by
  obtain ⟨h1, h2⟩ := New.inv e
  rw [New.at (g.free h1)]
  exact h2
theorem New.old {H H' : Hp} {x : Addr} {o : HO} (h : H x ≠ none) : New H (L2.upd H' x o) = New H H' := by
  funext b
  unfold New
  by_cases hb : H b = none
  · rw [if_pos hb, if_pos hb, upd_ne fun z => h (by rw [← z]; exact hb)]
  · rw [if_neg hb, if_neg hb]
/-- a row of numbered pieces, filtered -/
theorem nm_len {ts : List Addr} {L : List (Nat × Pie)} {H : Hp} (h : Paired (NmAt H) ts L) : ts.length = L.length := Paired.length h
section
variable {P : Program} {w : World} {K : PySem.W.Frag} {mg : Str → Option Value} {base : Heap} {A : Adr} {f1 f2 f3 : Addr}
abbrev nTx : List Str := ["self", "entries", "numbered", "number", "piece", "item"]
theorem sc_Text : FnScope nTx ["self", "entries"] (defScope s_Text) := ⟨rfl, rfl, rfl, by decide +kernel, rfl, by decide +kernel, by decide +kernel⟩
/-- the turns of [(number, piece) for number, piece in numbered if ..] -/
theorem comp_nm {H : Hp} {q D : Addr} {ts : List Addr} {L : List (Nat × Pie)} {pd : Nat × Pie → Bool} {r : R2} {σ : L2.St} {Qd : Hp → Prop} (hσ : ∃ a b c, σ = [some a, some b, some c, none, none, none]) (hq : H q = some (.lst (ts.map V.ref))) (pr : Paired (NmAt H) ts L) (hL : L.length ≤ 14400) (nD : H D = none)
    (hr : ∀ (x : Nat × Pie) (H' : Hp) (R : VK), R (.bl (pd x)) H' → r (ni x.2.seam) (.int 0) H' R)
    (fin : ∀ H' us, Same H H' → H' D = some (.lst (us.map V.ref)) → Paired (NmAt H') us (L.filter pd) → Qd H') :
    ∃ W : Nat → Nat → Hp → Prop, (∃ m, W 0 m (L2.upd H D (.lst []))) ∧ ∀ i m H, W i m H →
      ((Itl K q).stop i H ∧ Qd H) ∨ ((Itl K q).go i H ∧ ∃ Nx : Hp → Prop, (∀ H', Nx H' → ∃ m', m' < m ∧ W (i + 1) m' H') ∧ ∀ x H', (Itl K q).yld i H x H' → (gTup K 2 (gCons (gName 3) (gCons (gName 4) gNil))) x (wipe σ [3, 4]) H' fun σ2 H2 => wipe σ2 [3, 4] = wipe σ [3, 4] ∧
        (tTest (tOp r (tOp (rIxT K) (tVar 4) (tC (.int 0))) (tC (.int 0)))) σ2 H2 fun b H3 =>
        if b = true then (tTup (tCons (tVar 3) (tCons (tVar 4) tNil))) σ2 H3 fun y H4 => ∃ acc, H4 D = some (.lst acc) ∧ acc.length < sizeLine ∧ Nx (L2.upd H4 D (.lst (acc ++ [y]))) else Nx H3) := by
  obtain ⟨a, b, c, rfl⟩ := hσ
  have lt := Paired.length pr
  have sD : Same H (L2.upd H D (.lst [])) := Same.new nD
  refine lc_it (walk_list (K := K) (a := q) (xs := ts.map V.ref)) (fun i H' => ∃ us : List Addr, Same H H' ∧ H' D = some (.lst (us.map V.ref)) ∧ us.length ≤ i ∧ Paired (NmAt (Off H' D)) us ((L.take i).filter pd)) ?_ ?_ ?_ ?_
  · exact ⟨[], sD, upd_same, Nat.le_refl _, by rw [List.take_zero]; exact .nil⟩
  · rintro i H' hi ⟨us, s1, _⟩
    exact .of (s1 _ _ hq)
  · rintro i v H1 H2 hi ⟨us, s1, hD, hu, pu⟩ ⟨rfl, hv⟩
    rw [List.length_map] at hi
    rw [List.getElem?_map] at hv
    obtain ⟨t, ht1, rfl⟩ := Option.map_eq_some_iff.mp hv
    obtain ⟨x, hx1, ap, hap, hpc⟩ := paired_get pr ht1
    obtain ⟨ff, gg, e1, e2, e3⟩ := id hpc
    have tk : L.take (i + 1) = L.take i ++ [x] := by rw [List.take_add_one, hx1]; rfl
    refine ⟨t, _, rfl, .of (s1 _ _ hap), rfl, _, _, rfl, _, _, rfl, rfl, rfl, ?_⟩
    refine ⟨_, rfl, ap, _, _, _, rfl, rfl, .of (s1 _ _ e1), atI_nat (j := 0) rfl, hr x _ _ ⟨_, rfl, ?_⟩⟩
    by_cases hp : pd x = true
    · refine if_true_of hp ?_
      refine ⟨_, rfl, _, rfl, by show 2 ≤ sizeLine; decide, fun T nT => ?_⟩
      have sT : Same H2 (L2.upd H2 T (.tup [ni x.1, .ref ap])) := Same.new nT
      have hTD : T ≠ D := fun z => by rw [z, hD] at nT; cases nT
      refine ⟨_, sT _ _ hD, ?_, us ++ [T], Same.put (s1.trans sT) nD, ?_, ?_, ?_⟩
      · rw [List.length_map, sizeLine_eq]
        omega
      · rw [upd_same, List.map_append]
        rfl
      · rw [List.length_append]
        exact Nat.add_le_add_right hu 1
      · rw [Off.upd, tk, List.filter_append, List.filter_cons_of_pos hp]
        refine paired_snoc (Paired.mapP pu fun _ _ z => z.same (Off.mono sT)) ⟨ap, ?_, hpc.same ?_⟩
        · rw [Off.ne hTD]
          exact upd_same
        · exact Off.old (s1.trans sT) nD
    · refine if_false_of (Bool.not_eq_true _ ▸ hp) ?_
      refine ⟨us, s1, hD, Nat.le_succ_of_le hu, ?_⟩
      rw [tk, List.filter_append, List.filter_cons_of_neg hp, List.filter_nil, List.append_nil]
      exact pu
  · rintro H1 ⟨us, s1, hD, hu, pu⟩
    rw [List.length_map, lt, List.take_length] at pu
    exact fin H1 us s1 hD (Paired.mapP pu fun _ _ z => z.same Off.same)
end
end G

end

section
set_option Elab.async false
set_option linter.all false
set_option maxRecDepth 100000
set_option maxHeartbeats 4000000
namespace G
open PySem PySem.Spec PyProof.Rows L2 GR
theorem tal_known {H : Hp} {kvs : NKV} {l : List Sx05.Item} (h : Tal H kvs (tally (Sx05.allPieces l))) : Paired (fun (y : NestedKey × Addr × V) (p : Pie) => PcAt H y.2.1 p) kvs (Sx05.known l) := by
  rw [tally_eq] at h
  have z : Sx05.known l = ((Sx05.allPieces l).eraseDups.map fun p => (p, (Sx05.allPieces l).count p)).map (·.1) := by
    rw [List.map_map]
    show _ = List.map id _
    rw [List.map_id]
    rfl
  rw [z]
  generalize ((Sx05.allPieces l).eraseDups.map fun p => (p, (Sx05.allPieces l).count p)) = M at h
  unfold Tal at h
  clear z
  induction h with
  | nil => exact .nil
  | cons r t ih => exact .cons r.2.1 ih
theorem paired_of {α β : Type} {F : α → β → Prop} : ∀ {l : List α} {m : List β}, l.length = m.length → (∀ (i : Nat) a b, l[i]? = some a → m[i]? = some b → F a b) → Paired F l m
  | [], [], _, _ => .nil
  | [], _ :: _, h, _ => by cases h
  | _ :: _, [], h, _ => by cases h
  | a :: l, b :: m, h, k => .cons (k 0 a b rfl rfl) (paired_of (Nat.succ.inj h) fun i x y hx hy => k (i + 1) x y hx hy)
/-- what stands while a text is laid, from the numbered pieces on -/
structure Bld (P : Program) (w : World) (S : Addr → Prop) (H : Hp) (x d kp q : Addr) (kvs : NKV) (ts : List Addr) (L : List (Nat × Pie)) (H' : Hp) : Prop where
  g : Gw H x H'
  hd : New H H' d = some (dN P w d kvs)
  hk : New H H' kp = some (.lst (kvs.map fun y => V.ref y.2.1))
  hq : Hd S H' q = some (.lst (ts.map V.ref))
  pr : Paired (NmAt (Hd S H')) ts L
section
variable {P : Program} {w : World} {S : Addr → Prop} {H H1 H2 : Hp} {x d kp q : Addr} {kvs : NKV} {ts : List Addr} {L : List (Nat × Pie)}
theorem Bld.same (B : Bld P w S H x d kp q kvs ts L H1) (s : Same H1 H2) : Bld P w S H x d kp q kvs ts L H2 :=
  ⟨B.g.same s, New.mono s _ _ B.hd, New.mono s _ _ B.hk, Hd.mono s _ _ B.hq, Paired.mapP B.pr fun _ _ z => z.same (Hd.mono s)⟩
theorem Bld.upd {o : HO} (B : Bld P w S H x d kp q kvs ts L H1) (hx : S x) (nx : H x ≠ none) : Bld P w S H x d kp q kvs ts L (L2.upd H1 x o) :=
  ⟨B.g.upd, by rw [New.old nx]; exact B.hd, by rw [New.old nx]; exact B.hk, by rw [Hd.upd hx]; exact B.hq, by rw [Hd.upd hx]; exact B.pr⟩
end
section
variable {P : Program} {w : World} {K : PySem.W.Frag} {mg : Str → Option Value} {base : Heap} {A : Adr} {f1 f2 f3 : Addr}
theorem ok_Text {f : Addr} {fd : FuncData} (F : Fun K "__init__" "Text.__init__" s_Text f fd) (cl : Cls K A.Text) (n1 : NoAttr K A.Text "entries") (n2 : NoAttr K A.Text "times") (n3 : NoAttr K A.Text "known_pieces") (n4 : NoAttr K A.Text "by_form") (n5 : NoAttr K A.Text "by_gloss")
    (n6 : NoAttr K A.Text "firsts") (n7 : NoAttr K A.Text "others") (n8 : NoAttr K A.Text "traits") (RI : Rec2 P w K mg base "Item" A.Item "words" "free")
    (D1 : Def P w K mg base CX0 1 "times_of" f1 ["entries"] (spTimes P w A)) (D2 : Def P w K mg base CX0 1 "numbers_by" f2 ["part", "numbered"] spNumBy) (D3 : Def P w K mg base CX0 6 "traits_of_words" f3 ["words"] (spTraitsW A)) (mL : mg "list" = none) (mE : mg "enumerate" = none)
    {t0 t1 t2 tn : Tok} (m0 : mg "SEAM" = some (.int 0 t0)) (m1 : mg "FORM" = some (.int 1 t1)) (m2 : mg "GLOSS" = some (.int 2 t2)) (mn : mg "NO_SEAM" = some (.int 0 tn)) : FnOk P w K mg base CX0 7 f fd ["self", "entries"] (spTextI P w A) := by
  refine F.ok sc_Text (fun vs H Q E h => ?_) (fun cdv Ar outer s H vs Q E hr h => ?_)
  · obtain ⟨S, x, dx, p, l, rfl, _⟩ := h
    rfl
  refine ⟨_, pss_cons (ps_fld (pv 0) (pv 1) rfl) (pss_cons (ps_fld (pv 0) (pe_def D1 hr pass0 (pa_cons (pv 1) pa_nil)) rfl)
    (pss_cons (ps_fld (pv 0) (pe_callTy (call_list_dN rfl) (by rfl) mL (by decide +kernel) (by exact (pa_cons (pe_fld (pv 0) rfl) pa_nil))) rfl)
    (pss_cons (ps_set (i := 2) sc_Text.nd rfl (.inl rfl) (pe_listEnum rfl (by rfl) mE (by exact (pa_cons (pe_fld (pv 0) rfl) pa_nil)) (by rfl) mL (by decide +kernel)))
    (pss_cons (ps_fld (pv 0) (pe_def D2 hr pass0 (pa_cons (pe_glob (v := .int 1) rfl m1 ⟨_, rfl⟩) (pa_cons (pv 2) pa_nil))) rfl)
    (pss_cons (ps_fld (pv 0) (pe_def D2 hr pass0 (pa_cons (pe_glob (v := .int 2) rfl m2 ⟨_, rfl⟩) (pa_cons (pv 2) pa_nil))) rfl)
    (pss_cons (ps_fld (pv 0) (pe_def D2 hr pass0 (pa_cons (pe_glob (v := .int 1) rfl m1 ⟨_, rfl⟩) (pa_cons
      (pe_lc (own := [("number", 3), ("piece", 4)]) (g := gTup K 2 (gCons (gName 3) (gCons (gName 4) gNil))) (tt := tTest (tOp rEq (tOp (rIxT K) (tVar 4) (tC (.int 0))) (tC (.int 0)))) (te := tTup (tCons (tVar 3) (tCons (tVar 4) tNil))) rfl sc_Text.nd
        (pi_list (pv 2)) (blkOk_by (N := nTx) (sc := defScope s_Text) (by decide +kernel))
        (fun _ _ _ _ _ => by exact (pg_tup rfl (pgs_cons (pg_name (i := 3) sc_Text.nd rfl (Or.inl rfl)) (pgs_cons (pg_name (i := 4) sc_Text.nd rfl (Or.inl rfl)) pgs_nil))))
        (fun _ _ _ _ _ => pts_one (by exact (pt_cmpR op_eq (pe_ix ix_tup (pv 4) (pe_glob (v := .int 0) rfl m0 ⟨_, rfl⟩) (fun _ _ => rfl)) (pe_glob (v := .int 0) rfl mn ⟨_, rfl⟩) (nomark _))))
        (fun _ _ _ _ _ => by exact (pe_tup (pa_cons (pv 3) (pa_cons (pv 4) pa_nil))))) pa_nil))) rfl)
    (pss_cons (ps_fld (pv 0) (pe_def D2 hr pass0 (pa_cons (pe_glob (v := .int 1) rfl m1 ⟨_, rfl⟩) (pa_cons
      (pe_lc (own := [("number", 3), ("piece", 4)]) (g := gTup K 2 (gCons (gName 3) (gCons (gName 4) gNil))) (tt := tTest (tOp rNe (tOp (rIxT K) (tVar 4) (tC (.int 0))) (tC (.int 0)))) (te := tTup (tCons (tVar 3) (tCons (tVar 4) tNil))) rfl sc_Text.nd
        (pi_list (pv 2)) (blkOk_by (N := nTx) (sc := defScope s_Text) (by decide +kernel))
        (fun _ _ _ _ _ => by exact (pg_tup rfl (pgs_cons (pg_name (i := 3) sc_Text.nd rfl (Or.inl rfl)) (pgs_cons (pg_name (i := 4) sc_Text.nd rfl (Or.inl rfl)) pgs_nil))))
        (fun _ _ _ _ _ => pts_one (by exact (pt_cmpR op_ne (pe_ix ix_tup (pv 4) (pe_glob (v := .int 0) rfl m0 ⟨_, rfl⟩) (fun _ _ => rfl)) (pe_glob (v := .int 0) rfl mn ⟨_, rfl⟩) (nomark _))))
        (fun _ _ _ _ _ => by exact (pe_tup (pa_cons (pv 3) (pa_cons (pv 4) pa_nil))))) pa_nil))) rfl)
    (pss_one (ps_fld (pv 0) (pe_lc (own := [("item", 5)]) (g := gName 5) (tt := tYes) (te := teCall (spTraitsW A) (tCons (tFld K (tVar 5) "words") tNil)) rfl sc_Text.nd
      (pi_list (pv 1)) (blkOk_by (N := nTx) (sc := defScope s_Text) (by decide +kernel)) (fun _ _ _ _ _ => pg_name (i := 5) sc_Text.nd rfl (Or.inl rfl)) (fun _ _ _ _ _ => pts_nil)
      (fun _ _ _ _ _ => by exact (pe_def D3 hr pass0 (pa_cons (pe_fld (pv 5) rfl) pa_nil)))) rfl))))))))), ?_⟩
  obtain ⟨S, x, dx, p, l, rfl, hSx, hS, hx, hI, hok, k⟩ := h
  have nHx : H x ≠ none := by rw [hx]; exact fun z => by cases z
  -- entries
  refine ⟨_, rfl, _, rfl, x, A.Text, dx, _, rfl, hx, cl, n1, (by show 0 < 1000; decide), ?_⟩
  rw [putF1]
  have g0 : Gw H x H := ⟨fun _ _ e => e, nHx⟩
  have g1 : Gw H x (upd H x (.ins A.Text dx [("entries", .ref p)])) := g0.upd
  have hx1 : upd H x (.ins A.Text dx [("entries", .ref p)]) x = some (.ins A.Text dx [("entries", .ref p)]) := upd_same
  have eH1 : Hd S (upd H x (.ins A.Text dx [("entries", .ref p)])) = Hd S H := Hd.upd hSx
  generalize upd H x (.ins A.Text dx [("entries", .ref p)]) = H1 at *
  -- times
  refine ⟨_, rfl, S, p, l, rfl, by rw [eH1]; exact hI, hok, fun H2 d kvs s2 nd hd ht hl => ?_⟩
  rw [eH1] at ht
  have g2 := g1.same s2
  have hx2 := s2 _ _ hx1
  have hd2 : New H H2 d = some (dN P w d kvs) := by rw [New.at (g1.free nd)]; exact hd
  refine ⟨_, rfl, x, A.Text, dx, _, rfl, hx2, cl, n2, (by show 1 < 1000; decide), ?_⟩
  rw [putFn _ _ (by decide +kernel), putF1]
  have g3 : Gw H x (upd H2 x (.ins A.Text dx [("entries", .ref p), ("times", .ref d)])) := g2.upd
  have hx3 : upd H2 x (.ins A.Text dx [("entries", .ref p), ("times", .ref d)]) x = some (.ins A.Text dx [("entries", .ref p), ("times", .ref d)]) := upd_same
  have hd3 : New H (upd H2 x (.ins A.Text dx [("entries", .ref p), ("times", .ref d)])) d = some (dN P w d kvs) := by rw [New.old nHx]; exact hd2
  generalize upd H2 x (.ins A.Text dx [("entries", .ref p), ("times", .ref d)]) = H3 at *
  -- known_pieces
  refine ⟨_, rfl, x, A.Text, dx, _, _, rfl, hx3, cl, n2, lk2 (by decide +kernel), d, kvs, rfl, New.sub _ _ hd3, by omega, fun kp nkp => ?_⟩
  have s4 : Same H3 (upd H3 kp (.lst (kvs.map fun y => V.ref y.2.1))) := Same.new nkp
  have g4 := g3.same s4
  have hx4 := s4 _ _ hx3
  have hd4 := New.mono s4 _ _ hd3
  have hk4 : New H (upd H3 kp (.lst (kvs.map fun y => V.ref y.2.1))) kp = some (.lst (kvs.map fun y => V.ref y.2.1)) := by rw [New.at (g3.free nkp)]; exact upd_same
  generalize upd H3 kp (.lst (kvs.map fun y => V.ref y.2.1)) = H4 at *
  refine ⟨_, rfl, x, A.Text, dx, _, rfl, hx4, cl, n3, (by show 2 < 1000; decide), ?_⟩
  rw [putFn _ _ (by decide +kernel), putFn _ _ (by decide +kernel), putF1]
  have g5 : Gw H x (upd H4 x (.ins A.Text dx [("entries", .ref p), ("times", .ref d), ("known_pieces", .ref kp)])) := g4.upd
  have hx5 : upd H4 x (.ins A.Text dx [("entries", .ref p), ("times", .ref d), ("known_pieces", .ref kp)]) x = some (.ins A.Text dx [("entries", .ref p), ("times", .ref d), ("known_pieces", .ref kp)]) := upd_same
  have eN5 : New H (upd H4 x (.ins A.Text dx [("entries", .ref p), ("times", .ref d), ("known_pieces", .ref kp)])) = New H H4 := New.old nHx
  have hd5 := hd4
  have hk5 := hk4
  rw [← eN5] at hd5 hk5
  generalize upd H4 x (.ins A.Text dx [("entries", .ref p), ("times", .ref d), ("known_pieces", .ref kp)]) = H5 at *
  -- numbered
  refine ⟨_, rfl, x, A.Text, dx, _, _, rfl, hx5, cl, n3, lk3 (by decide +kernel) (by decide +kernel), kp, _, rfl, .of (New.sub _ _ hk5), by rw [List.length_map]; omega, fun H6 q ts s6 nq nts hq lts hts => ?_⟩
  have g6 := g5.same s6
  have hx6 := s6 _ _ hx5
  have hd6 := New.mono s6 _ _ hd5
  have hk6 := New.mono s6 _ _ hk5
  have pk := tal_known ht
  have lk := Paired.length pk
  have lkn : (kNum l).length = kvs.length := by unfold kNum; rw [num_len, lk]
  have pr6 : Paired (NmAt (Hd S H6)) ts (kNum l) := by
    refine paired_of (by rw [lts, List.length_map, lkn]) fun i t y ht1 hy1 => ?_
    obtain ⟨v, hv, htt⟩ := hts i t ht1
    rw [List.getElem?_map] at hv
    obtain ⟨z, hz, rfl⟩ := Option.map_eq_some_iff.mp hv
    obtain ⟨pc, hpc1, hpc2⟩ := paired_get pk hz
    unfold kNum at hy1
    rw [num_get, hpc1] at hy1
    cases hy1
    exact ⟨z.2.1, Hd.of (notS hS (g5.free (nts t (List.mem_of_getElem? ht1)))) htt, hpc2.same (g6.hd hSx)⟩
  have hL : (kNum l).length ≤ 14400 := by omega
  have B6 : Bld P w S H x d kp q kvs ts (kNum l) H6 := ⟨g6, hd6, hk6, Hd.of (notS hS (g5.free nq)) hq, pr6⟩
  have hx6 : H6 x = some (.ins A.Text dx [("entries", .ref p), ("times", .ref d), ("known_pieces", .ref kp)]) := hx6
  clear hd6 hk6 pr6 hts hq
  -- by_form
  refine ⟨_, rfl, 1, fun p => p.form, q, ts, kNum l, rfl, .inl ⟨rfl, rfl⟩, Hd.sub _ _ B6.hq, Paired.mapP B6.pr fun _ _ z => z.same Hd.sub, hL, fun H7 bf s7 nbf hbf => ?_⟩
  have B7 := B6.same s7
  have hx7 := s7 _ _ hx6
  have hbf := hbf.same B6.g.new
  refine ⟨_, rfl, x, A.Text, dx, _, rfl, hx7, cl, n4, (by show 3 < 1000; decide), ?_⟩
  rw [putFn _ _ (by decide +kernel), putFn _ _ (by decide +kernel), putFn _ _ (by decide +kernel), putF1]
  have B8 := B7.upd (o := .ins A.Text dx [("entries", .ref p), ("times", .ref d), ("known_pieces", .ref kp), ("by_form", .ref bf)]) hSx nHx
  have hx8 : upd H7 x (.ins A.Text dx [("entries", .ref p), ("times", .ref d), ("known_pieces", .ref kp), ("by_form", .ref bf)]) x = some (.ins A.Text dx [("entries", .ref p), ("times", .ref d), ("known_pieces", .ref kp), ("by_form", .ref bf)]) := upd_same
  rw [← New.old (H' := H7) (o := .ins A.Text dx [("entries", .ref p), ("times", .ref d), ("known_pieces", .ref kp), ("by_form", .ref bf)]) nHx] at hbf
  generalize upd H7 x (.ins A.Text dx [("entries", .ref p), ("times", .ref d), ("known_pieces", .ref kp), ("by_form", .ref bf)]) = H8 at *
  -- by_gloss
  refine ⟨_, rfl, 2, fun p => p.gloss, q, ts, kNum l, rfl, .inr ⟨rfl, rfl⟩, Hd.sub _ _ B8.hq, Paired.mapP B8.pr fun _ _ z => z.same Hd.sub, hL, fun H9 bg s9 nbg hbg => ?_⟩
  have B9 := B8.same s9
  have hx9 := s9 _ _ hx8
  have hbg := hbg.same B8.g.new
  have hbf := hbf.same (New.mono s9)
  refine ⟨_, rfl, x, A.Text, dx, _, rfl, hx9, cl, n5, (by show 4 < 1000; decide), ?_⟩
  rw [putFn _ _ (by decide +kernel), putFn _ _ (by decide +kernel), putFn _ _ (by decide +kernel), putFn _ _ (by decide +kernel), putF1]
  have B10 := B9.upd (o := .ins A.Text dx [("entries", .ref p), ("times", .ref d), ("known_pieces", .ref kp), ("by_form", .ref bf), ("by_gloss", .ref bg)]) hSx nHx
  have hx10 : upd H9 x (.ins A.Text dx [("entries", .ref p), ("times", .ref d), ("known_pieces", .ref kp), ("by_form", .ref bf), ("by_gloss", .ref bg)]) x = some (.ins A.Text dx [("entries", .ref p), ("times", .ref d), ("known_pieces", .ref kp), ("by_form", .ref bf), ("by_gloss", .ref bg)]) := upd_same
  rw [← New.old (H' := H9) (o := .ins A.Text dx [("entries", .ref p), ("times", .ref d), ("known_pieces", .ref kp), ("by_form", .ref bf), ("by_gloss", .ref bg)]) nHx] at hbf hbg
  generalize upd H9 x (.ins A.Text dx [("entries", .ref p), ("times", .ref d), ("known_pieces", .ref kp), ("by_form", .ref bf), ("by_gloss", .ref bg)]) = H10 at *
  -- firsts
  refine ⟨_, rfl, q, rfl, ⟨_, .of (Hd.sub _ _ B10.hq)⟩, fun D nD => ?_⟩
  refine comp_nm (K := K) (pd := isF) ⟨_, _, _, rfl⟩ (Hd.sub _ _ B10.hq) (Paired.mapP B10.pr fun _ _ z => z.same Hd.sub) hL nD (fun y H' R hR => ⟨rfl, ?_⟩) fun H11 us s11 hD11 pu => ?_
  · have e : decide (ni y.2.seam = V.int 0) = isF y := by
      unfold isF
      by_cases h : y.2.seam = 0
      · rw [decide_eq_true h, h]
        rfl
      · rw [decide_eq_false h, decide_eq_false]
        intro z
        have := V.int.inj z
        omega
    rw [e]
    exact hR
  have lf : ((kNum l).filter isF).length ≤ 14400 := Nat.le_trans (List.length_filter_le _ _) hL
  refine ⟨1, fun p => p.form, D, us, (kNum l).filter isF, rfl, .inl ⟨rfl, rfl⟩, hD11, pu, lf, fun H12 fs s12 nfs hfs => ?_⟩
  have s1012 := s11.trans s12
  have B12 := B10.same s1012
  have hx12 := s1012 _ _ hx10
  have hfs := hfs.same (B10.same s11).g.new
  have hbf := hbf.same (New.mono s1012)
  have hbg := hbg.same (New.mono s1012)
  refine ⟨_, rfl, x, A.Text, dx, _, rfl, hx12, cl, n6, (by show 5 < 1000; decide), ?_⟩
  rw [putFn _ _ (by decide +kernel), putFn _ _ (by decide +kernel), putFn _ _ (by decide +kernel), putFn _ _ (by decide +kernel), putFn _ _ (by decide +kernel), putF1]
  have B13 := B12.upd (o := .ins A.Text dx [("entries", .ref p), ("times", .ref d), ("known_pieces", .ref kp), ("by_form", .ref bf), ("by_gloss", .ref bg), ("firsts", .ref fs)]) hSx nHx
  have hx13 : upd H12 x (.ins A.Text dx [("entries", .ref p), ("times", .ref d), ("known_pieces", .ref kp), ("by_form", .ref bf), ("by_gloss", .ref bg), ("firsts", .ref fs)]) x = some (.ins A.Text dx [("entries", .ref p), ("times", .ref d), ("known_pieces", .ref kp), ("by_form", .ref bf), ("by_gloss", .ref bg), ("firsts", .ref fs)]) := upd_same
  rw [← New.old (H' := H12) (o := .ins A.Text dx [("entries", .ref p), ("times", .ref d), ("known_pieces", .ref kp), ("by_form", .ref bf), ("by_gloss", .ref bg), ("firsts", .ref fs)]) nHx] at hbf hbg hfs
  generalize upd H12 x (.ins A.Text dx [("entries", .ref p), ("times", .ref d), ("known_pieces", .ref kp), ("by_form", .ref bf), ("by_gloss", .ref bg), ("firsts", .ref fs)]) = H13 at *
  clear hD11 pu nD
  -- others
  refine ⟨_, rfl, q, rfl, ⟨_, .of (Hd.sub _ _ B13.hq)⟩, fun D nD => ?_⟩
  refine comp_nm (K := K) (pd := fun y => !isF y) ⟨_, _, _, rfl⟩ (Hd.sub _ _ B13.hq) (Paired.mapP B13.pr fun _ _ z => z.same Hd.sub) hL nD (fun y H' R hR => ⟨rfl, ?_⟩) fun H14 us s14 hD14 pu => ?_
  · have e : decide (ni y.2.seam = V.int 0) = isF y := by
      unfold isF
      by_cases h : y.2.seam = 0
      · rw [decide_eq_true h, h]
        rfl
      · rw [decide_eq_false h, decide_eq_false]
        intro z
        have := V.int.inj z
        omega
    rw [e]
    exact hR
  have lo : ((kNum l).filter fun y => !isF y).length ≤ 14400 := Nat.le_trans (List.length_filter_le _ _) hL
  refine ⟨1, fun p => p.form, D, us, (kNum l).filter fun y => !isF y, rfl, .inl ⟨rfl, rfl⟩, hD14, pu, lo, fun H15 ot s15 not hot => ?_⟩
  have s1315 := s14.trans s15
  have B15 := B13.same s1315
  have hx15 := s1315 _ _ hx13
  have hot := hot.same (B13.same s14).g.new
  have hbf := hbf.same (New.mono s1315)
  have hbg := hbg.same (New.mono s1315)
  have hfs := hfs.same (New.mono s1315)
  refine ⟨_, rfl, x, A.Text, dx, _, rfl, hx15, cl, n7, (by show 6 < 1000; decide), ?_⟩
  rw [putFn _ _ (by decide +kernel), putFn _ _ (by decide +kernel), putFn _ _ (by decide +kernel), putFn _ _ (by decide +kernel), putFn _ _ (by decide +kernel), putFn _ _ (by decide +kernel), putF1]
  have B16 := B15.upd (o := .ins A.Text dx [("entries", .ref p), ("times", .ref d), ("known_pieces", .ref kp), ("by_form", .ref bf), ("by_gloss", .ref bg), ("firsts", .ref fs), ("others", .ref ot)]) hSx nHx
  have hx16 : upd H15 x (.ins A.Text dx [("entries", .ref p), ("times", .ref d), ("known_pieces", .ref kp), ("by_form", .ref bf), ("by_gloss", .ref bg), ("firsts", .ref fs), ("others", .ref ot)]) x = some (.ins A.Text dx [("entries", .ref p), ("times", .ref d), ("known_pieces", .ref kp), ("by_form", .ref bf), ("by_gloss", .ref bg), ("firsts", .ref fs), ("others", .ref ot)]) := upd_same
  rw [← New.old (H' := H15) (o := .ins A.Text dx [("entries", .ref p), ("times", .ref d), ("known_pieces", .ref kp), ("by_form", .ref bf), ("by_gloss", .ref bg), ("firsts", .ref fs), ("others", .ref ot)]) nHx] at hbf hbg hfs hot
  generalize upd H15 x (.ins A.Text dx [("entries", .ref p), ("times", .ref d), ("known_pieces", .ref kp), ("by_form", .ref bf), ("by_gloss", .ref bg), ("firsts", .ref fs), ("others", .ref ot)]) = H16 at *
  clear hD14 pu nD
  -- traits
  obtain ⟨as, hpl, pi⟩ := hI.same (B16.g.hd hSx)
  have lpi := Paired.length pi
  have hS16 := B16.g.S hS
  have l60 := hok.1
  refine ⟨_, rfl, p, rfl, ⟨_, .of (Hd.sub _ _ hpl)⟩, fun D nD => ?_⟩
  have sD : Same H16 (upd H16 D (.lst [])) := Same.new nD
  refine lc_it (walk_list (K := K) (a := p) (xs := as.map V.ref)) (fun i H' => ∃ bs : List Addr, Same H16 H' ∧ H' D = some (.lst (bs.map V.ref)) ∧ Paired (fun a (y : Sx05.Item) => TrWs (Hd (And1 S D) H') a y.words) bs (l.take i)) ?_ ?_ ?_ ?_
  · exact ⟨[], sD, upd_same, by rw [List.take_zero]; exact .nil⟩
  · rintro i H' hi ⟨bs, s1, _⟩
    exact .of (s1 _ _ (Hd.sub _ _ hpl))
  · rintro i v Ha Hb hi ⟨bs, s1, hD, pb⟩ ⟨rfl, hv⟩
    rw [List.getElem?_map] at hv
    obtain ⟨a, ha1, rfl⟩ := Option.map_eq_some_iff.mp hv
    obtain ⟨y, hy1, dxa, pw, pf, ea, ew, _⟩ := paired_get pi ha1
    have hyo := hok.2 y (List.mem_of_getElem? hy1)
    refine ⟨rfl, yes_of ?_⟩
    refine ⟨_, rfl, a, A.Item, dxa, _, _, rfl, s1 _ _ (Hd.sub _ _ ea), RI.cl, RI.n1, lk1, And1 S D, pw, y.words, rfl, and1_S (up_S hS16 s1) hD, ew.same (Hd.to1 s1 nD), hyo.1, fun z hz => ?_, fun Hc r sc nr htr => ?_⟩
    · have hz := hyo.2 z hz
      exact ⟨hz.1, fun p hp => (hz.2 p hp).2.2.2⟩
    have lb := Paired.length pb
    refine ⟨_, sc _ _ hD, ?_, bs ++ [r], Same.put (s1.trans sc) nD, ?_, ?_⟩
    · rw [List.length_map, lb, List.length_take, sizeLine_eq]
      omega
    · rw [upd_same, List.map_append]
      rfl
    · rw [Hd.updS (.inr rfl), List.take_add_one, hy1]
      exact paired_snoc (Paired.mapP pb fun _ _ z => z.same (Hd.mono sc)) htr
  rintro H17 ⟨bs, s17, hD, pb⟩
  rw [List.length_map, lpi, List.take_length] at pb
  have B17 := B16.same s17
  have hx17 := s17 _ _ hx16
  have hbf := hbf.same (New.mono s17)
  have hbg := hbg.same (New.mono s17)
  have hfs := hfs.same (New.mono s17)
  have hot := hot.same (New.mono s17)
  have htr : TrsAt (Hd S H17) D l := ⟨bs, Hd.of (notS hS16 nD) hD, Paired.mapP pb fun _ _ z => z.same Hd.wk1⟩
  refine ⟨_, rfl, x, A.Text, dx, _, rfl, hx17, cl, n8, (by show 7 < 1000; decide), ?_⟩
  rw [putFn _ _ (by decide +kernel), putFn _ _ (by decide +kernel), putFn _ _ (by decide +kernel), putFn _ _ (by decide +kernel), putFn _ _ (by decide +kernel), putFn _ _ (by decide +kernel), putFn _ _ (by decide +kernel), putF1]
  have B18 := B17.upd (o := .ins A.Text dx (txF p d kp ⟨bf, bg, fs, ot, D⟩)) hSx nHx
  refine k _ d kp kvs ⟨bf, bg, fs, ot, D⟩ B18.g.sm upd_same B18.hd B18.hk ht hl ?_ ?_
  · rw [show New H (upd H17 x (.ins A.Text dx [("entries", .ref p), ("times", .ref d), ("known_pieces", .ref kp), ("by_form", .ref bf), ("by_gloss", .ref bg), ("firsts", .ref fs), ("others", .ref ot), ("traits", .ref D)])) = New H H17 from New.old nHx]
    exact ⟨hbf, hbg, hfs, hot⟩
  · rw [Hd.upd hSx]
    exact htr
end
end G

end

section
set_option Elab.async false
set_option linter.all false
set_option maxRecDepth 100000
set_option maxHeartbeats 4000000
namespace G
open PySem PySem.Spec PyProof.Rows L2 GR
structure TxT (P : Program) (w : World) (K : PySem.W.Frag) (mg : Str → Option Value) (base : Heap) (A : Adr) : Prop where
  ex : ∃ (fI : Addr) (fd : FuncData), Mk K A.Text fI ∧ FnOk P w K mg base CX0 7 fI fd ["self", "entries"] (spTextI P w A) ∧ Binds K fd ["self", "entries"] []
  cl : Cls K A.Text
  n1 : NoAttr K A.Text "entries"
  n2 : NoAttr K A.Text "times"
  n3 : NoAttr K A.Text "known_pieces"
  n4 : NoAttr K A.Text "by_form"
  n5 : NoAttr K A.Text "by_gloss"
  n6 : NoAttr K A.Text "firsts"
  n7 : NoAttr K A.Text "others"
  n8 : NoAttr K A.Text "traits"
  gl : mg "Text" = some (.ref A.Text)
def one (f : V → Prop) : List V → Prop
  | [x] => f x
  | _ => False
theorem one_inv {f : V → Prop} : ∀ {vs : List V}, one f vs → ∃ x, vs = [x] ∧ f x
  | [x], h => ⟨x, rfl, h⟩
  | [], h => h.elim
  | _ :: _ :: _, h => h.elim
def tText (P : Program) (w : World) (A : Adr) (te : TE) : TE := fun σ H Q => te σ H fun v H1 => ∃ (S : Addr → Prop) (p : Addr) (l : List Sx05.Item), v = .ref p ∧ (∀ b, S b → H1 b ≠ none) ∧ Items A (Hd S H1) p l ∧ OkSt l ∧
  ∀ H' x, Same H1 H' → H1 x = none → TextAt P w A (Hd S H') x l → Q (.ref x) H'
theorem Hd.or {S : Addr → Prop} {x : Addr} {H : Hp} {b : Addr} {o : HO} (e : Hd S H b = some o) (hb : b ≠ x) : Hd (fun c => S c ∨ c = x) H b = some o := by
  obtain ⟨h1, h2⟩ := Hd.inv e
  rw [Hd.at fun z => z.elim h1 hb]
  exact h2
section
variable {X : Cx} {j : Nat} {A : Adr} {p pos : Pos} {e : Expr} {te : TE}
theorem pe_text (T : TxT X.prog X.w X.K X.mg X.base A) (hr : Room j X.A) (hp : PA X [e] (tCons te tNil)) (hj : 8 ≤ j := by decide) (hg : Gl X "Text" := by rfl)
    (he : starEach [e] X.env = (false, eval e X.env) :: starEach [] X.env := by rfl) (hpl : (backTo pos (starEach [] X.env)).any (·.1) = false := by rfl) :
    PE X (.Call (.Name "Text" p) [e] [] pos) (tText X.prog X.w A te) := by
  obtain ⟨fI, fd, M, F, bi⟩ := T.ex
  have z := pe_make (pos := pos) (p := p) (E := E0) M F (hr.mono hj) hg T.gl bi .nil pass0 (pa_up hp) (by decide) he hpl
  refine ⟨fun pins s σ H Q I h => z.run pins s σ H Q I ?_⟩
  refine ⟨fun vs H1 => one (fun v => ∃ (S : Addr → Prop) (p : Addr) (l : List Sx05.Item), v = .ref p ∧ (∀ b, S b → H1 b ≠ none) ∧ Items A (Hd S H1) p l ∧ OkSt l ∧
    ∀ H' x, Same H1 H' → H1 x = none → TextAt X.prog X.w A (Hd S H') x l → Q (.ref x) H') vs, h, ?_⟩
  intro vs H1 q x dx nx nd ne
  obtain ⟨v, rfl, S, p, l, rfl, hS, hI, hok, k⟩ := one_inv q
  have s0 : Same H1 (upd (upd H1 dx (.own x)) x (.ins A.Text dx [])) := Same.recH (C := A.Text) (fs := []) nx nd
  have h0 : upd (upd H1 dx (.own x)) x (.ins A.Text dx []) x = some (.ins A.Text dx []) := upd_same
  generalize upd (upd H1 dx (.own x)) x (.ins A.Text dx []) = H2 at *
  have sH : Same (Hd S H1) (Hd (fun c => S c ∨ c = x) H2) := fun b o y => by
    have hb : b ≠ x := fun q => by
      have := (Hd.inv y).2
      rw [q, nx] at this
      cases this
    exact Hd.or (Hd.mono s0 _ _ y) hb
  have hS2 : ∀ b, (S b ∨ b = x) → H2 b ≠ none := by
    rintro b (hb | rfl)
    · exact fun z => hS b hb (s0.free z)
    · rw [h0]
      exact fun z => by cases z
  refine ⟨fun c => S c ∨ c = x, x, dx, p, l, rfl, .inr rfl, hS2, h0, hI.same sH, hok, fun H3 d kp kvs E s3 hx hd hkp ht hl hdc htr => ⟨rfl, ?_⟩⟩
  have s13 : Same H1 H3 := fun b o y => by
    have hb : b ≠ x := fun q => by rw [q, nx] at y; cases y
    have z := s3 b o (by rw [Off.ne hb]; exact s0 _ _ y)
    exact Off.same _ _ z
  have sN : Same (New H2 H3) (Hd S H3) := fun b o y => by
    obtain ⟨g1, g2⟩ := New.inv y
    exact Hd.of (fun z => hS b z (s0.free g1)) g2
  refine k H3 x s13 nx ⟨dx, p, d, kp, kvs, E, ?_, hI.same (Hd.mono s13), sN _ _ hd, sN _ _ hkp, ht.same ?_, hl, hdc.same sN, htr.same (Hd.wk fun _ => .inl)⟩
  · rw [Hd.at fun y => hS x y nx]
    exact hx
  · intro b o y
    obtain ⟨g1, g2⟩ := Hd.inv y
    have hb : b ≠ x := fun q => g1 (.inr q)
    rw [Hd.at fun q => g1 (.inl q)]
    exact Off.same _ _ (s3 b o (by rw [Off.ne hb]; exact g2))
end
/-! ### Desk -/
def spDeskI (P : Program) (w : World) (A : Adr) : Sp := fun vs H Q _ => ∃ (x dx : Addr), vs = [.ref x] ∧ H x = some (.ins A.Desk dx []) ∧
  ∀ H' tx, Same (Off H x) (Off H' x) → H' x = some (.ins A.Desk dx [("text", .ref tx)]) → TextAt P w A (New H H') tx [] → Q .non H'
theorem okSt_nil : OkSt [] := ⟨by decide, fun x hx => by cases hx⟩
theorem Hd.isNew {H H' : Hp} : Same (Hd (fun b => H b ≠ none) H') (New H H') := fun b o e => by
  obtain ⟨g1, g2⟩ := Hd.inv e
  rw [New.at (Classical.byContradiction g1)]
  exact g2
section
variable {P : Program} {w : World} {K : PySem.W.Frag} {mg : Str → Option Value} {base : Heap} {A : Adr}
theorem sc_Desk : FnScope ["self"] ["self"] (defScope s_Desk) := ⟨rfl, rfl, rfl, by decide +kernel, rfl, by decide +kernel, by decide +kernel⟩
theorem ok_Desk {f : Addr} {fd : FuncData} (F : Fun K "__init__" "Desk.__init__" s_Desk f fd) (cl : Cls K A.Desk) (n1 : NoAttr K A.Desk "text") (T : TxT P w K mg base A) : FnOk P w K mg base CX0 9 f fd ["self"] (spDeskI P w A) := by
  refine F.ok sc_Desk (fun vs H Q E h => ?_) (fun cdv Ar outer s H vs Q E hr h => ?_)
  · obtain ⟨x, dx, rfl, _⟩ := h
    rfl
  refine ⟨_, pss_one (ps_fld (pv 0) (pe_text T hr (pa_cons (pe_lst pa_nil) pa_nil)) rfl), ?_⟩
  obtain ⟨x, dx, rfl, hx, k⟩ := h
  refine ⟨Nat.zero_le _, fun p np => ?_⟩
  have s1 : Same H (upd H p (.lst [])) := Same.new np
  refine ⟨fun b => H b ≠ none, p, [], rfl, fun b hb z => hb (s1.free z), ⟨[], ?_, .nil⟩, okSt_nil, fun H2 tx s2 ntx hT => ?_⟩
  · rw [Hd.at fun z => z np]
    exact upd_same
  have s02 := s1.trans s2
  refine ⟨_, rfl, x, A.Desk, dx, _, rfl, s02 _ _ hx, cl, n1, (by show 0 < 1000; decide), ?_⟩
  rw [putF1]
  refine k _ tx ?_ upd_same (hT.same (Hd.isNew.trans ?_))
  · rw [Off.upd]
    exact Off.mono s02
  · intro b o y
    obtain ⟨g1, g2⟩ := New.inv y
    have hb : b ≠ x := fun q => by rw [q, hx] at g1; cases g1
    rw [New.at g1, upd_ne hb]
    exact g2
end
/-! ### the calls -/
def DeskAt (P : Program) (w : World) (A : Adr) (S : Addr → Prop) (H : Hp) (dk : Addr) (l : List Sx05.Item) : Prop := ∃ ddx tx, H dk = some (.ins A.Desk ddx [("text", .ref tx)]) ∧ TextAt P w A (Hd S H) tx l
def ansOf (y : Sx05.Ans) : List Int := y.v :: y.l
def iis (l : List Int) : List V := l.map V.int
/-- a call of the desk: c tells the call of its numbers, pre what is asked of them -/
def spDesk (P : Program) (w : World) (A : Adr) (c : Bytes → Sx05.Call) (pre : Bytes → Prop) : Sp := fun vs H Q _ => ∃ (S : Addr → Prop) (dk nb : Addr) (ns : Bytes) (l : List Sx05.Item), vs = [.ref dk, .ref nb] ∧ S dk ∧ (∀ b, S b → H b ≠ none) ∧
  DeskAt P w A S H dk l ∧ OkSt l ∧ H nb = some (.lst (nis ns)) ∧ pre ns ∧ (ansOf (Sx05.step l (c ns)).2).length ≤ 1000000 ∧
  ∀ H' p, Same (Off H dk) (Off H' dk) → DeskAt P w A S H' dk (Sx05.step l (c ns)).1 → H p = none → H' p = some (.lst (iis (ansOf (Sx05.step l (c ns)).2))) → Q (.ref p) H'
/-- the desk's own facts -/
structure DkT (K : PySem.W.Frag) (A : Adr) : Prop where
  cl : Cls K A.Desk
  n1 : NoAttr K A.Desk "text"
/-- counted -/
def spCounted : Sp := fun vs H Q _ => ∃ (a : Addr) (l : List V), vs = [.ref a] ∧ H a = some (.lst l) ∧ l.length ≤ 2000000 ∧ ∀ H' p, Same H H' → H p = none → H' p = some (.lst (.int l.length :: l)) → Q (.ref p) H'
section
variable {P : Program} {w : World} {K : PySem.W.Frag} {mg : Str → Option Value} {base : Heap} {A : Adr}
theorem sc_counted : FnScope ["numbers"] ["numbers"] (defScope s_counted) := ⟨rfl, rfl, rfl, by decide +kernel, rfl, by decide +kernel, by decide +kernel⟩
theorem ok_counted {f : Addr} {fd : FuncData} (F : Fun K "counted" "counted" s_counted f fd) (mLen : mg "len" = none) : FnOk P w K mg base CX0 1 f fd ["numbers"] spCounted := by
  refine F.ok sc_counted (fun vs H Q E h => ?_) (fun cdv Ar outer s H vs Q E hr h => ?_)
  · obtain ⟨a, l, rfl, _⟩ := h
    rfl
  refine ⟨_, pss_one (ps_ret (pe_op op_cat (pe_lst (by exact (pa_cons (pe_callB call_len_seq (by rfl) mLen PySem.boot_len (by exact (pa_cons (pv 0) pa_nil))) pa_nil))) (pv 0))), ?_⟩
  obtain ⟨a, l, rfl, ha, hl, k⟩ := h
  refine ⟨_, rfl, a, _, rfl, .inl (.of ha), by show 1 ≤ sizeLine; decide, fun n nn => ?_⟩
  have s1 : Same H (upd H n (.lst [.int l.length])) := Same.new nn
  refine ⟨_, rfl, n, a, _, _, rfl, rfl, upd_same, s1 _ _ ha, ?_, fun p np => ?_⟩
  · show 1 + l.length ≤ sizeLine
    rw [sizeLine_eq]
    omega
  exact k _ p (s1.trans (Same.new np)) (s1.free np) upd_same
theorem sc_begins : FnScope ["desk", "numbers"] ["desk", "numbers"] (defScope s_begins) := ⟨rfl, rfl, rfl, by decide +kernel, rfl, by decide +kernel, by decide +kernel⟩
theorem ok_begins {f : Addr} {fd : FuncData} (F : Fun K "begins" "begins" s_begins f fd) (T : TxT P w K mg base A) (B : DkT K A) : FnOk P w K mg base CX0 9 f fd ["desk", "numbers"] (spDesk P w A (fun _ => .begins) fun _ => True) := by
  refine F.ok sc_begins (fun vs H Q E h => ?_) (fun cdv Ar outer s H vs Q E hr h => ?_)
  · obtain ⟨S, dk, nb, ns, l, rfl, _⟩ := h
    rfl
  refine ⟨_, pss_cons (ps_fld (pv 0) (pe_text T hr (pa_cons (pe_lst pa_nil) pa_nil)) rfl) (pss_one (ps_ret (pe_lst (pa_cons pe_int pa_nil)))), ?_⟩
  obtain ⟨S, dk, nb, ns, l, rfl, hSd, hS, ⟨ddx, tx0, hdk, hT0⟩, hok, hnb, _, hsz, k⟩ := h
  refine ⟨Nat.zero_le _, fun p np => ?_⟩
  have s1 : Same H (upd H p (.lst [])) := Same.new np
  refine ⟨S, p, [], rfl, fun b hb z => hS b hb (s1.free z), ⟨[], ?_, .nil⟩, okSt_nil, fun H2 tx s2 ntx hT => ?_⟩
  · rw [Hd.at fun z => hS p z np]
    exact upd_same
  have s02 := s1.trans s2
  refine ⟨_, rfl, dk, A.Desk, ddx, _, rfl, s02 _ _ hdk, B.cl, B.n1, (by show 1 < 1000; decide), ?_⟩
  have e : putF "text" (V.ref tx) [(("text" : Str), V.ref tx0)] = [(("text" : Str), V.ref tx)] := if_pos rfl
  rw [e]
  refine ⟨by show 1 ≤ sizeLine; decide, fun q nq => ?_⟩
  have nqd : q ≠ dk := fun z => by rw [z, upd_same] at nq; cases nq
  rw [upd_ne nqd] at nq
  refine k _ q ?_ ⟨ddx, tx, ?_, ?_⟩ (s02.free nq) upd_same
  · intro b o z
    have hb : b ≠ dk := fun y => by rw [y, Off.at] at z; cases z
    have z2 := s02 _ _ (Off.same _ _ z)
    have hbq : b ≠ q := fun y => by rw [y, nq] at z2; cases z2
    rw [Off.ne hb, upd_ne hbq, upd_ne hb]
    exact z2
  · rw [upd_ne (Ne.symm nqd)]
    exact upd_same
  · refine hT.same fun b o y => ?_
    obtain ⟨g1, g2⟩ := Hd.inv y
    have hb : b ≠ dk := fun q => g1 (q ▸ hSd)
    have hbq : b ≠ q := fun y => by rw [y, nq] at g2; cases g2
    rw [Hd.at g1, upd_ne hbq, upd_ne hb]
    exact g2
end
end G

end

section
set_option Elab.async false
set_option linter.all false
set_option maxHeartbeats 2000000
namespace G
open PySem
theorem mkPcs_len : ∀ (a : Bytes) (b c : List Bytes), (mkPcs a b c).length ≤ b.length
  | [], _, _ => by simp [mkPcs]
  | _ :: _, [], _ => by simp [mkPcs]
  | _ :: _, _ :: _, [] => by simp [mkPcs]
  | _ :: a, _ :: b, _ :: c => by
    simp only [mkPcs, List.length_cons]
    exact Nat.succ_le_succ (mkPcs_len a b c)
abbrev WOk (y : Sx05.Word) : Prop := y.pieces.length ≤ 8 ∧ ∀ p ∈ y.pieces, PcOk p
theorem prt_sub {r : Seg} {b : Bytes} (h : b ∈ prt r) : b.length ≤ r.2.length := by
  obtain ⟨x, hx, rfl⟩ := List.mem_map.mp h
  exact cuts_sub hx
theorem mkPcs_mem : ∀ (a : Bytes) (b c : List Bytes) (p : Sx05.Piece), p ∈ mkPcs a b c → p.form ∈ b ∧ p.gloss ∈ c
  | [], _, _, p, h => by simp [mkPcs] at h
  | _ :: _, [], _, p, h => by simp [mkPcs] at h
  | _ :: _, _ :: _, [], p, h => by simp [mkPcs] at h
  | _ :: a, _ :: b, _ :: c, p, h => by
    simp only [mkPcs] at h
    rcases List.mem_cons.mp h with rfl | h
    · exact ⟨List.mem_cons_self, List.mem_cons_self⟩
    · have i := mkPcs_mem a b c p h
      exact ⟨List.mem_cons_of_mem _ i.1, List.mem_cons_of_mem _ i.2⟩
theorem none_empty {l : List Bytes} (h : ¬ (l.any fun l => decide (l = [])) = true) {x : Bytes} (hx : x ∈ l) : x ≠ [] := fun z => h (List.any_eq_true.mpr ⟨x, hx, decide_eq_true z⟩)
theorem wordIn_ok {x m g : Seg} {y : Sx05.Word} (hm : m.2.length ≤ 7000) (hg : g.2.length ≤ 7000) (h : Sx05.wordIn x m g = .ok y) : WOk y := by
  rw [wordIn_is] at h
  split at h
  · cases h
  · rename_i h1
    split at h
    · cases h
    · rename_i h2
      split at h
      · cases h
      · split at h
        · cases h
        · split at h
          · cases h
          · rename_i hl
            cases h
            refine ⟨Nat.le_trans (mkPcs_len _ _ _) (by omega), fun p hp => ?_⟩
            obtain ⟨i1, i2⟩ := mkPcs_mem _ _ _ _ hp
            exact ⟨none_empty h1 i1, none_empty h2 i2, Nat.le_trans (prt_sub i1) hm, Nat.le_trans (prt_sub i2) hg⟩
theorem wordsIn_ok : ∀ {W M G : List Seg} {ws : List Sx05.Word}, (∀ x ∈ M, x.2.length ≤ 7000) → (∀ x ∈ G, x.2.length ≤ 7000) → Sx05.wordsIn W M G = .ok ws → ws.length ≤ W.length ∧ ∀ y ∈ ws, WOk y
  | [], _, _, ws, _, _, h => by
    have h : (Except.ok [] : Except Sx05.Fault (List Sx05.Word)) = Except.ok ws := h
    cases h
    exact ⟨Nat.le_refl _, fun y hy => by cases hy⟩
  | _ :: _, [], _, ws, _, _, h => by
    have h : (Except.ok [] : Except Sx05.Fault (List Sx05.Word)) = Except.ok ws := h
    cases h
    exact ⟨Nat.zero_le _, fun y hy => by cases hy⟩
  | _ :: _, _ :: _, [], ws, _, _, h => by
    have h : (Except.ok [] : Except Sx05.Fault (List Sx05.Word)) = Except.ok ws := h
    cases h
    exact ⟨Nat.zero_le _, fun y hy => by cases hy⟩
  | w :: r, m :: s, g :: t, ws, lm, lg, h => by
    have h : ((Sx05.wordIn w m g).bind fun x => (Sx05.wordsIn r s t).map fun l => x :: l) = .ok ws := h
    cases h1 : Sx05.wordIn w m g with
    | error e =>
      rw [h1] at h
      cases h
    | ok x =>
      rw [h1] at h
      cases h2 : Sx05.wordsIn r s t with
      | error e =>
        rw [h2] at h
        cases h
      | ok l =>
        rw [h2] at h
        have h : (Except.ok (x :: l) : Except Sx05.Fault (List Sx05.Word)) = Except.ok ws := h
        cases h
        obtain ⟨i1, i2⟩ := wordsIn_ok (fun x hx => lm x (List.mem_cons_of_mem _ hx)) (fun x hx => lg x (List.mem_cons_of_mem _ hx)) h2
        refine ⟨Nat.succ_le_succ i1, fun y hy => ?_⟩
        rcases List.mem_cons.mp hy with rfl | hy
        · exact wordIn_ok (lm m List.mem_cons_self) (lg g List.mem_cons_self) h1
        · exact i2 y hy
theorem rows_sub {r x : Seg} (h : x ∈ Sx05.wordsFrom r.1 [] r.2) : x.2.length ≤ r.2.length := by
  rw [wordsFrom_is] at h
  exact cuts_sub (List.mem_filter.mp h).1
theorem threeIn_ok {a b c : Seg} {ws : List Sx05.Word} (lb : b.2.length ≤ 7000) (lc : c.2.length ≤ 7000) (h : Sx05.threeIn a b c = .ok ws) : ws.length ≤ 30 ∧ ∀ y ∈ ws, WOk y := by
  unfold Sx05.threeIn at h
  dsimp only at h
  split at h
  · cases h
  · split at h
    · cases h
    · rename_i hw
      split at h
      · cases h
      · split at h
        · cases h
        · obtain ⟨i1, i2⟩ := wordsIn_ok (fun x hx => Nat.le_trans (rows_sub hx) lb) (fun x hx => Nat.le_trans (rows_sub hx) lc) h
          have : ¬ 30 < (Sx05.wordsFrom a.1 [] a.2).length := hw
          exact ⟨by omega, i2⟩
theorem items_ok {n : Nat} : ∀ {f k : Nat} {ls : List Seg} {i : Nat} {l : List Sx05.Item}, (∀ x ∈ ls, x.2.length ≤ 7000) → Sx05.itemsFrom n f k (ls.drop i) = .ok l → l.length ≤ 60 - k ∧ ∀ x ∈ l, x.words.length ≤ 30 ∧ ∀ y ∈ x.words, WOk y
  | 0, k, ls, i, l, _, h => by
    have h : (Except.ok [] : Except Sx05.Fault (List Sx05.Item)) = Except.ok l := by
      unfold Sx05.itemsFrom at h
      exact h
    cases h
    exact ⟨Nat.zero_le _, fun x hx => by cases hx⟩
  | f + 1, k, ls, i, l, hll, h => by
    by_cases hl : ls.length < i + 3
    · rw [items_few hl] at h
      cases h
    have ga : ls[i]? = some ls[i] := List.getElem?_eq_getElem (by omega)
    have gb : ls[i + 1]? = some ls[i + 1] := List.getElem?_eq_getElem (by omega)
    have gc : ls[i + 2]? = some ls[i + 2] := List.getElem?_eq_getElem (by omega)
    rw [items_step ga gb gc] at h
    by_cases hk : 60 ≤ k
    · rw [if_pos hk] at h
      cases h
    rw [if_neg hk] at h
    cases h3 : Sx05.threeIn ls[i] ls[i + 1] ls[i + 2] with
    | error e =>
      rw [h3] at h
      cases h
    | ok ws =>
      rw [h3] at h
      simp only [Except.bind] at h
      have t3 := threeIn_ok (hll _ (List.getElem_mem _)) (hll _ (List.getElem_mem _)) h3
      cases hb : ls[behind ls i]? with
      | none =>
        rw [hb] at h
        have h : (Except.ok [_] : Except Sx05.Fault (List Sx05.Item)) = Except.ok l := h
        cases h
        refine ⟨by simp only [List.length_cons, List.length_nil]; omega, fun x hx => ?_⟩
        rw [List.mem_singleton.mp hx]
        exact t3
      | some y =>
        rw [hb] at h
        dsimp only at h
        split at h
        · cases h
        · cases h4 : Sx05.itemsFrom n f (k + 1) (ls.drop (behind ls i + 1)) with
          | error e =>
            rw [h4] at h
            cases h
          | ok l2 =>
            rw [h4] at h
            have h : (Except.ok (_ :: l2) : Except Sx05.Fault (List Sx05.Item)) = Except.ok l := h
            cases h
            obtain ⟨i1, i2⟩ := items_ok hll h4
            refine ⟨by rw [List.length_cons]; omega, fun x hx => ?_⟩
            rcases List.mem_cons.mp hx with rfl | hx
            · exact t3
            · exact i2 x hx
theorem read_ok {t : Bytes} {l : List Sx05.Item} (hlen : t.length ≤ 7000) (h : Sx05.read t = .ok l) : OkSt l := by
  by_cases ht : t = []
  · rw [ht] at h
    have h : (Except.ok [] : Except Sx05.Fault (List Sx05.Item)) = Except.ok l := h
    cases h
    exact okSt_nil
  · rw [read_eq t ht] at h
    split at h
    · have z := items_ok (i := 0) (fun x hx => Nat.le_trans (cuts_sub ((List.dropLast_sublist _).subset hx)) hlen) (by rw [List.drop_zero]; exact h)
      exact ⟨by have := z.1; omega, z.2⟩
    · cases h
theorem step_ok {l : List Sx05.Item} (h : OkSt l) (c : Sx05.Call) : OkSt (Sx05.step l c).1 := by
  cases c with
  | begins => exact okSt_nil
  | read t =>
    unfold Sx05.step
    dsimp only
    split
    · exact h
    · rename_i ht
      have ht : ¬ 6000 < t.length := ht
      split
      · exact h
      · rename_i hr
        exact read_ok (by omega) hr
  | _ => exact h
end G

end

section
set_option Elab.async false
set_option linter.all false
set_option maxRecDepth 100000
set_option maxHeartbeats 4000000
namespace G
open PySem PySem.Spec PyProof.Rows L2 GR
theorem DeskAt.same {P : Program} {w : World} {A : Adr} {S : Addr → Prop} {H H' : Hp} (s : Same H H') {dk : Addr} {l : List Sx05.Item} (h : DeskAt P w A S H dk l) : DeskAt P w A S H' dk l := by
  obtain ⟨ddx, tx, e1, e2⟩ := h
  exact ⟨ddx, tx, s _ _ e1, e2.same (Hd.mono s)⟩
section
variable {P : Program} {w : World} {K : PySem.W.Frag} {mg : Str → Option Value} {base : Heap} {A : Adr} {f1 f2 : Addr}
theorem sc_read : FnScope ["desk", "numbers", "entries", "fault"] ["desk", "numbers"] (defScope s_read) := ⟨rfl, rfl, rfl, by decide +kernel, rfl, by decide +kernel, by decide +kernel⟩
theorem ok_read {f : Addr} {fd : FuncData} (F : Fun K "read" "read" s_read f fd) (T : TxT P w K mg base A) (B : DkT K A) (Fl : FltT P w K mg base A.Fault) (D1 : Def P w K mg base (L2.CX P w) 7 "entries_of" f1 ["text"] (spEntries A)) (mLen : mg "len" = none)
    {t1 t3 t6 : Tok} (m1 : mg "OUT_OF_BOUNDS" = some (.int (-1) t1)) (m3 : mg "FAULTY" = some (.int (-3) t3)) (m6 : mg "MOST_BYTES" = some (.int 6000 t6)) :
    FnOk P w K mg base CX0 9 f fd ["desk", "numbers"] (spDesk P w A (fun ns => .read ns) fun ns => ns.length ≤ 7000) := by
  refine F.ok sc_read (fun vs H Q E h => ?_) (fun cdv Ar outer s H vs Q E hr h => ?_)
  · obtain ⟨S, dk, nb, ns, l, rfl, _⟩ := h
    rfl
  obtain ⟨fdE, FE, bE⟩ := D1.ex
  refine ⟨_, pss_cons (ps_if (pt_cmpR op_gt (pe_callB call_len_seq (by rfl) mLen PySem.boot_len (by exact (pa_cons (pv 1) pa_nil))) (pe_glob (v := .int 6000) rfl m6 ⟨_, rfl⟩) (nomark _))
      (pss_one (ps_ret (pe_lst (by exact (pa_cons (pe_glob (v := .int (-1)) rfl m1 ⟨_, rfl⟩) pa_nil))))) pss_nil)
    (pss_cons (ps_try_as (i := 3) (tb := fun W => tAsg (tCallS (spEntries A) (WE W) (tCons (tVar 1) tNil)) (gName 2))
        (ts := fun a cls d => tRet (tLst (tCons (tC (.int (-3))) (tCons (tXf a cls d A.Fault "kind" (tVar 3)) (tCons (tXf a cls d A.Fault "place" (tVar 3)) tNil))))) (Wout := fun _ _ _ _ => False) rfl rfl sc_read.nd rfl rfl ⟨rfl, by decide, Or.inl Fl.gl⟩ takes0
        (fun W pn xe tk _ => pss_one (ps_set (i := 2) sc_read.nd rfl (.inl rfl) (by exact (pe_callS FE (hr.mono (by decide)) rfl D1.gl D1.kp bE (fun σ => passAt tk σ) (by exact (pa_cons (pv 1) pa_nil))))))
        (fun a oe cls d pn hz hf => pss_one (ps_ret (pe_lst (by exact (pa_cons (pe_glob (v := .int (-3)) rfl m3 ⟨_, rfl⟩) (pa_cons (pe_xf Fl.xf Fl.nk hz hf (pv 3)) (pa_cons (pe_xf Fl.xf Fl.np hz hf (pv 3)) pa_nil))))))))
    (pss_cons (ps_fld (pv 0) (pe_text T hr (pa_cons (pv 2) pa_nil)) rfl)
    (pss_one (ps_ret (pe_lst (by exact (pa_cons (pe_callB call_len_seq (by rfl) mLen PySem.boot_len (by exact (pa_cons (pv 2) pa_nil))) pa_nil))))))), ?_⟩
  obtain ⟨S, dk, nb, ns, l, rfl, hSd, hS, hDk, hok, hnb, hpre, hsz, k⟩ := h
  refine ⟨_, rfl, nb, _, rfl, .inl (.of hnb), _, _, rfl, rfl, _, rfl, ?_⟩
  rw [nis_length]
  have stp : Sx05.step l (.read ns) = if Sx05.TEXT < ns.length then (l, Sx05.ok (-1)) else match Sx05.read ns with
    | .error f => (l, ⟨-3, [Sx05.num f.1, Sx05.num f.2]⟩)
    | .ok l => (l, Sx05.ok (Sx05.num l.length)) := rfl
  rw [stp] at k
  by_cases c1 : Sx05.TEXT < ns.length
  · have c1' : 6000 < ns.length := c1
    rw [if_pos c1] at k
    refine if_true_of (decide_eq_true (by omega)) ?_
    refine ⟨by show 1 ≤ sizeLine; decide, fun q nq => ?_⟩
    have s1 : Same H (upd H q (.lst [.int (-1)])) := Same.new nq
    exact k _ q (Off.mono s1) (hDk.same s1) nq upd_same
  have c1' : ¬ 6000 < ns.length := c1
  refine if_false_of (decide_eq_false (by omega)) ?_
  rw [if_neg c1] at k
  refine ⟨_, rfl, nb, ns, rfl, hnb, hpre, fun fl hfl H1 d s1 hd => ?_, fun l2 hl2 H1 p s1 np hI => ?_⟩
  · -- a fault
    rw [hfl] at k
    refine ⟨true, Fl.te, fun _ a0 _ => ?_, fun q => Bool.noConfusion q⟩
    refine ⟨_, rfl, rfl, rfl, d, _, _, rfl, hd, lk2 (by decide +kernel), _, rfl, rfl, rfl, d, _, _, rfl, hd, lk1, by show 3 ≤ sizeLine; decide, fun q nq => ?_⟩
    have s2 := s1.trans (Same.new (o := .lst [.int (-3), ni fl.1, ni fl.2]) nq)
    exact k _ q (Off.mono s2) (hDk.same s2) (s1.free nq) upd_same
  · rw [hl2] at k
    have hIS : Items A (Hd S H1) p l2 := hI.same (Hd.new hS)
    refine ⟨_, rfl, S, p, l2, rfl, fun b hb z => hS b hb (s1.free z), hIS, read_ok hpre hl2, fun H2 tx s2 ntx hT => ?_⟩
    obtain ⟨ddx, tx0, hdk, hT0⟩ := hDk
    have s02 := s1.trans s2
    refine ⟨_, rfl, dk, A.Desk, ddx, _, rfl, s02 _ _ hdk, B.cl, B.n1, (by show 1 < 1000; decide), ?_⟩
    have e : putF "text" (V.ref tx) [(("text" : Str), V.ref tx0)] = [(("text" : Str), V.ref tx)] := if_pos rfl
    rw [e]
    obtain ⟨as, hp, pr⟩ := hI
    have lp := Paired.length pr
    have hp1 := New.sub _ _ hp
    have npd : p ≠ dk := fun z => by rw [z, hdk] at np; cases np
    refine ⟨_, rfl, p, as.map V.ref, rfl, .inl (.of ?_), by show 1 ≤ sizeLine; decide, fun q nq => ?_⟩
    · rw [upd_ne npd]
      exact s2 _ _ hp1
    have nqd : q ≠ dk := fun z => by rw [z, upd_same] at nq; cases nq
    rw [upd_ne nqd] at nq
    refine k _ q ?_ ⟨ddx, tx, ?_, ?_⟩ (s02.free nq) ?_
    · intro b o z
      have hb : b ≠ dk := fun y => by rw [y, Off.at] at z; cases z
      have z2 := s02 _ _ (Off.same _ _ z)
      have hbq : b ≠ q := fun y => by rw [y, nq] at z2; cases z2
      rw [Off.ne hb, upd_ne hbq, upd_ne hb]
      exact z2
    · rw [upd_ne (Ne.symm nqd)]
      exact upd_same
    · refine hT.same fun b o y => ?_
      obtain ⟨g1, g2⟩ := Hd.inv y
      have hb : b ≠ dk := fun q => g1 (q ▸ hSd)
      have hbq : b ≠ q := fun y => by rw [y, nq] at g2; cases g2
      rw [Hd.at g1, upd_ne hbq, upd_ne hb]
      exact g2
    · rw [upd_same, List.length_map, lp]
      rfl
theorem sc_said : FnScope ["desk", "numbers"] ["desk", "numbers"] (defScope s_said) := ⟨rfl, rfl, rfl, by decide +kernel, rfl, by decide +kernel, by decide +kernel⟩
theorem ok_said {f : Addr} {fd : FuncData} (F : Fun K "said" "said" s_said f fd) (T : TxT P w K mg base A) (B : DkT K A) (D1 : Def P w K mg base CX0 3 "said_text" f1 ["entries"] (spSaidText A)) (D2 : Def P w K mg base CX0 1 "counted" f2 ["numbers"] spCounted) :
    FnOk P w K mg base CX0 4 f fd ["desk", "numbers"] (spDesk P w A (fun _ => .said) fun _ => True) := by
  refine F.ok sc_said (fun vs H Q E h => ?_) (fun cdv Ar outer s H vs Q E hr h => ?_)
  · obtain ⟨S, dk, nb, ns, l, rfl, _⟩ := h
    rfl
  refine ⟨_, pss_one (ps_ret (pe_def D2 hr pass0 (pa_cons (pe_def D1 hr pass0 (pa_cons (pe_fld (pe_fld (pv 0) rfl) rfl) pa_nil)) pa_nil))), ?_⟩
  obtain ⟨S, dk, nb, ns, l, rfl, hSd, hS, hDk, hok, hnb, _, hsz, k⟩ := h
  obtain ⟨ddx, tx, hdk, hT⟩ := id hDk
  obtain ⟨dx, p, d, kp, kvs, X, e1, e2, e3, e4, e5, e6, e7, e8⟩ := hT.same Hd.sub
  have hsz : (ansOf (Sx05.step l .said).2).length ≤ 1000000 := hsz
  have hsz2 : (Sx05.said l).length ≤ 1000000 := by
    have z : (ansOf (Sx05.step l .said).2).length = (Sx05.said l).length + 1 := by
      show (Sx05.num _ :: (Sx05.said l).map Sx05.num).length = _
      rw [List.length_cons, List.length_map]
    omega
  refine ⟨_, rfl, dk, A.Desk, ddx, _, _, rfl, hdk, B.cl, B.n1, lk1, tx, A.Text, dx, _, _, rfl, e1, T.cl, T.n1, lk1, p, l, rfl, e2, hok, hsz2, fun H1 q s1 nq hq => ?_⟩
  refine ⟨q, _, rfl, hq, by rw [nis_length]; omega, fun H2 r s2 nr hr2 => ?_⟩
  have s02 := s1.trans s2
  refine k _ r (Off.mono s02) (hDk.same s02) (s1.free nr) ?_
  rw [hr2, nis_length]
  show some (HO.lst (V.int _ :: nis _)) = some (HO.lst (V.int _ :: ((Sx05.said l).map Sx05.num).map V.int))
  rw [List.map_map]
  rfl
theorem sc_known : FnScope ["desk", "numbers"] ["desk", "numbers"] (defScope s_known) := ⟨rfl, rfl, rfl, by decide +kernel, rfl, by decide +kernel, by decide +kernel⟩
theorem ok_known {f : Addr} {fd : FuncData} (F : Fun K "known" "known" s_known f fd) (T : TxT P w K mg base A) (B : DkT K A) (mLen : mg "len" = none) :
    FnOk P w K mg base CX0 1 f fd ["desk", "numbers"] (spDesk P w A (fun _ => .known) fun _ => True) := by
  refine F.ok sc_known (fun vs H Q E h => ?_) (fun cdv Ar outer s H vs Q E hr h => ?_)
  · obtain ⟨S, dk, nb, ns, l, rfl, _⟩ := h
    rfl
  refine ⟨_, pss_one (ps_ret (pe_lst (by exact (pa_cons (pe_callB call_len_seq (by rfl) mLen PySem.boot_len (by exact (pa_cons (pe_fld (pe_fld (pv 0) rfl) rfl) pa_nil))) pa_nil)))), ?_⟩
  obtain ⟨S, dk, nb, ns, l, rfl, hSd, hS, hDk, hok, hnb, _, hsz, k⟩ := h
  obtain ⟨ddx, tx, hdk, hT⟩ := id hDk
  obtain ⟨dx, p, d, kp, kvs, X, e1, e2, e3, e4, e5, e6, e7, e8⟩ := hT.same Hd.sub
  refine ⟨_, rfl, dk, A.Desk, ddx, _, _, rfl, hdk, B.cl, B.n1, lk1, tx, A.Text, dx, _, _, rfl, e1, T.cl, T.n3, lk3 (by decide +kernel) (by decide +kernel), kp, _, rfl, .inl (.of e4), by show 1 ≤ sizeLine; decide, fun q nq => ?_⟩
  have s1 := Same.new (o := .lst [.int ((kvs.map fun y => V.ref y.2.1).length : Int)]) nq
  refine k _ q (Off.mono s1) (hDk.same s1) nq ?_
  have le := Paired.length e5
  rw [upd_same, List.length_map, le, tally_eq, List.length_map]
  rfl
end
end G

end

section
set_option Elab.async false
set_option linter.all false
set_option maxRecDepth 100000
set_option maxHeartbeats 4000000
namespace G
open PySem PySem.Spec PyProof.Rows L2 GR
section
variable {P : Program} {w : World} {K : PySem.W.Frag} {mg : Str → Option Value} {base : Heap} {A : Adr} {f1 f2 : Addr}
abbrev nIt : List Str := ["desk", "numbers", "number", "word"]
theorem sc_item : FnScope nIt ["desk", "numbers"] (defScope s_item) := ⟨rfl, rfl, rfl, by decide +kernel, rfl, by decide +kernel, by decide +kernel⟩
theorem ok_item {f : Addr} {fd : FuncData} (F : Fun K "item" "item" s_item f fd) (T : TxT P w K mg base A) (B : DkT K A) (RW : Rec2 P w K mg base "Word" A.Word "rows" "pieces") (RI : Rec2 P w K mg base "Item" A.Item "words" "free")
    (D2 : Def P w K mg base CX0 1 "counted" f2 ["numbers"] spCounted) (mLen : mg "len" = none) {t2 : Tok} (m2 : mg "NOT_THERE" = some (.int (-2) t2)) :
    FnOk P w K mg base CX0 2 f fd ["desk", "numbers"] (spDesk P w A (fun ns => .item (ns.headD 0)) fun ns => ns.length = 1) := by
  refine F.ok sc_item (fun vs H Q E h => ?_) (fun cdv Ar outer s H vs Q E hr h => ?_)
  · obtain ⟨S, dk, nb, ns, l, rfl, _⟩ := h
    rfl
  refine ⟨_, pss_cons (ps_set (i := 2) sc_item.nd rfl (.inl rfl) (pe_ix ix_list (pv 1) pe_int (fun _ _ => rfl)))
    (pss_cons (ps_if (pt_cmpR op_ge (pv 2) (pe_callB call_len_seq (by rfl) mLen PySem.boot_len (by exact (pa_cons (pe_fld (pe_fld (pv 0) rfl) rfl) pa_nil))) (nomark _))
      (pss_one (ps_ret (pe_lst (by exact (pa_cons (pe_glob (v := .int (-2)) rfl m2 ⟨_, rfl⟩) pa_nil))))) pss_nil)
    (pss_one (ps_ret (pe_def D2 hr pass0 (pa_cons (pe_lc (own := [("word", 3)]) (g := gName 3) (tt := tYes) (te := tCB (rLen K) (tCons (tFld K (tVar 3) "pieces") tNil)) rfl sc_item.nd
      (pi_list (pe_fld (pe_ix ix_list (pe_fld (pe_fld (pv 0) rfl) rfl) (pv 2) (fun _ _ => rfl)) rfl)) (blkOk_by (N := nIt) (sc := defScope s_item) (by decide +kernel))
      (fun _ _ _ _ _ => pg_name (i := 3) sc_item.nd rfl (Or.inl rfl)) (fun _ _ _ _ _ => pts_nil)
      (fun _ _ _ _ _ => by exact (pe_callB call_len_seq (by rfl) mLen PySem.boot_len (by exact (pa_cons (pe_fld (pv 3) rfl) pa_nil))))) pa_nil))))), ?_⟩
  obtain ⟨S, dk, nb, ns, l, rfl, hSd, hS, hDk, hok, hnb, hpre, hsz, k⟩ := h
  obtain ⟨ddx, tx, hdk, hT⟩ := id hDk
  obtain ⟨dx, p, d, kp, kvs, X, e1, ⟨as, ep, pr⟩, e3, e4, e5, e6, e7, e8⟩ := hT.same Hd.sub
  have la := Paired.length pr
  obtain ⟨i, rfl⟩ : ∃ i, ns = [i] := by
    match ns, hpre with
    | [i], _ => exact ⟨i, rfl⟩
  have stp : Sx05.step l (.item i) = (l, match l[i]? with
    | none => Sx05.ok (-2)
    | some x => ⟨Sx05.num x.words.length, x.words.map fun y => Sx05.num y.pieces.length⟩) := rfl
  have k : ∀ (H' : Hp) (p : Addr), Same (Off H dk) (Off H' dk) → DeskAt P w A S H' dk l → H p = none → H' p = some (.lst (iis (ansOf (Sx05.step l (.item i)).2))) → Q (.ref p) H' := k
  rw [stp] at k
  refine ⟨_, rfl, nb, _, _, _, rfl, rfl, .of hnb, atI_nat (j := 0) rfl, ?_⟩
  refine ⟨_, rfl, _, rfl, dk, A.Desk, ddx, _, _, rfl, hdk, B.cl, B.n1, lk1, tx, A.Text, dx, _, _, rfl, e1, T.cl, T.n1, lk1, p, _, rfl, .inl (.of ep), _, _, rfl, rfl, _, rfl, ?_⟩
  rw [List.length_map, la]
  by_cases c1 : l.length ≤ i
  · refine if_true_of (decide_eq_true (by omega)) ?_
    refine ⟨by show 1 ≤ sizeLine; decide, fun q nq => ?_⟩
    have s1 : Same H (upd H q (.lst [.int (-2)])) := Same.new nq
    refine k _ q (Off.mono s1) (hDk.same s1) nq ?_
    rw [upd_same, List.getElem?_eq_none c1]
    rfl
  refine if_false_of (decide_eq_false (by omega)) ?_
  have hx : l[i]? = some l[i] := List.getElem?_eq_getElem (by omega)
  obtain ⟨a, ha1, dxa, pw, pf, ea, ⟨bs, hbs, pb⟩, _⟩ := paired_getR pr hx
  have lb := Paired.length pb
  have hxl := hok.2 l[i] (List.mem_of_getElem? hx)
  rw [hx] at k
  have hat : (as.map V.ref)[i]? = some (.ref a) := by rw [List.getElem?_map, ha1]; rfl
  refine ⟨_, rfl, dk, A.Desk, ddx, _, _, rfl, hdk, B.cl, B.n1, lk1, tx, A.Text, dx, _, _, rfl, e1, T.cl, T.n1, lk1, _, rfl, p, _, _, _, rfl, rfl, .of ep, atI_nat hat, a, A.Item, dxa, _, _, rfl, ea, RI.cl, RI.n1, lk1, pw, rfl, ⟨_, .of hbs⟩, fun D nD => ?_⟩
  have sD : Same H (upd H D (.lst [])) := Same.new nD
  refine lc_it (walk_list (K := K) (a := pw) (xs := bs.map V.ref)) (fun j H' => Same H (Off H' D) ∧ H' D = some (.lst (iis ((l[i].words.take j).map fun y => Sx05.num y.pieces.length)))) ?_ ?_ ?_ ?_
  · exact ⟨Off.old sD nD, upd_same⟩
  · rintro j H' hj ⟨s5, _⟩
    exact .of (Off.same _ _ (s5 _ _ hbs))
  · rintro j v H1 H2 hj ⟨s5, hD⟩ ⟨rfl, hv⟩
    rw [List.getElem?_map] at hv
    obtain ⟨b, hb1, rfl⟩ := Option.map_eq_some_iff.mp hv
    obtain ⟨y, hy1, dw, tw, pp, q1, q2, q3, g1, g2, g3, g4, g5, ⟨cs, hcs, pc⟩⟩ := paired_get pb hb1
    have old : ∀ {c o}, H c = some o → H2 c = some o := fun z => Off.same _ _ (s5 _ _ z)
    refine ⟨rfl, yes_of ?_⟩
    refine ⟨_, rfl, b, A.Word, dw, _, _, rfl, old g1, RW.cl, RW.n2, lk2 RW.ne, pp, _, rfl, .inl (.of (old hcs)), _, hD, ?_, ?_, ?_⟩
    · unfold iis
      rw [List.length_map, List.length_map, List.length_take, sizeLine_eq]
      omega
    · rw [Off.upd]
      exact s5
    · rw [upd_same, List.take_add_one, hy1, List.length_map, Paired.length pc]
      unfold iis
      simp only [Option.toList, List.map_append, List.map_cons, List.map_nil]
      rfl
  rintro H1 ⟨s5, hD⟩
  rw [List.length_map, lb, List.take_length] at hD
  have s01 : Same H H1 := s5.trans Off.same
  refine ⟨D, _, rfl, hD, ?_, fun H2 r s2 nr hr2 => ?_⟩
  · unfold iis
    rw [List.length_map, List.length_map]
    omega
  have s02 := s01.trans s2
  refine k _ r (Off.mono s02) (hDk.same s02) (s01.free nr) ?_
  rw [hr2]
  unfold iis
  rw [List.length_map, List.length_map]
  rfl
end
end G

end

section
set_option Elab.async false
set_option linter.all false
set_option maxRecDepth 100000
set_option maxHeartbeats 4000000
namespace G
open PySem PySem.Spec PyProof.Rows L2 GR
theorem cnt_tally {ps : List Pc} {p : Pc} (h : p ∈ ps) : cnt (tally ps) p = some (ps.count p) := by
  unfold cnt
  rw [tally_eq, find_map]
  simp only [List.mem_eraseDups]
  rw [if_pos h]
theorem listOut_eq (b : Bytes) : Sx05.listOut b = (b.length : Int) :: b.map Sx05.num := rfl
section
variable {P : Program} {w : World} {K : PySem.W.Frag} {mg : Str → Option Value} {base : Heap} {A : Adr} {f1 f2 : Addr}
theorem sc_piece : FnScope ["desk", "numbers", "number", "found"] ["desk", "numbers"] (defScope s_piece) := ⟨rfl, rfl, rfl, by decide +kernel, rfl, by decide +kernel, by decide +kernel⟩
theorem ok_piece {f : Addr} {fd : FuncData} (F : Fun K "piece" "piece" s_piece f fd) (T : TxT P w K mg base A) (B : DkT K A)
    (D2 : Def P w K mg base CX0 1 "counted" f2 ["numbers"] spCounted) (mLen : mg "len" = none) (mL : mg "list" = none) {t2 ts tf tg : Tok} (m2 : mg "NOT_THERE" = some (.int (-2) t2)) (mS : mg "SEAM" = some (.int 0 ts)) (mF : mg "FORM" = some (.int 1 tf)) (mG : mg "GLOSS" = some (.int 2 tg)) :
    FnOk P w K mg base CX0 2 f fd ["desk", "numbers"] (spDesk P w A (fun ns => .piece (ns.headD 0)) fun ns => ns.length = 1) := by
  refine F.ok sc_piece (fun vs H Q E h => ?_) (fun cdv Ar outer s H vs Q E hr h => ?_)
  · obtain ⟨S, dk, nb, ns, l, rfl, _⟩ := h
    rfl
  refine ⟨_, pss_cons (ps_set (i := 2) sc_piece.nd rfl (.inl rfl) (pe_ix ix_list (pv 1) pe_int (fun _ _ => rfl)))
    (pss_cons (ps_if (pt_cmpR op_ge (pv 2) (pe_callB call_len_seq (by rfl) mLen PySem.boot_len (by exact (pa_cons (pe_fld (pe_fld (pv 0) rfl) rfl) pa_nil))) (nomark _))
      (pss_one (ps_ret (pe_lst (by exact (pa_cons (pe_glob (v := .int (-2)) rfl m2 ⟨_, rfl⟩) pa_nil))))) pss_nil)
    (pss_cons (ps_set (i := 3) sc_piece.nd rfl (.inl rfl) (pe_ix ix_list (pe_fld (pe_fld (pv 0) rfl) rfl) (pv 2) (fun _ _ => rfl)))
    (pss_one (ps_ret (pe_op op_cat (pe_op op_cat (pe_lst (by exact (pa_cons (pe_nix hr (pe_fld (pe_fld (pv 0) rfl) rfl) (pv 3) (fun _ _ => rfl)) (pa_cons (pe_ix ix_tup (pv 3) (pe_glob (v := .int 0) rfl mS ⟨_, rfl⟩) (fun _ _ => rfl)) pa_nil))))
      (pe_def D2 hr pass0 (pa_cons (pe_callTy call_list_of (by rfl) mL (by decide +kernel) (by exact (pa_cons (pe_ix ix_tup (pv 3) (pe_glob (v := .int 1) rfl mF ⟨_, rfl⟩) (fun _ _ => rfl)) pa_nil))) pa_nil)))
      (pe_def D2 hr pass0 (pa_cons (pe_callTy call_list_of (by rfl) mL (by decide +kernel) (by exact (pa_cons (pe_ix ix_tup (pv 3) (pe_glob (v := .int 2) rfl mG ⟨_, rfl⟩) (fun _ _ => rfl)) pa_nil))) pa_nil))))))), ?_⟩
  obtain ⟨S, dk, nb, ns, l, rfl, hSd, hS, hDk, hok, hnb, hpre, hsz, k⟩ := h
  obtain ⟨ddx, tx, hdk, hT⟩ := id hDk
  obtain ⟨dx, p, d, kp, kvs, X, e1, e2, e3, e4, e5, e6, e7, e8⟩ := hT.same Hd.sub
  obtain ⟨i, rfl⟩ : ∃ i, ns = [i] := by
    match ns, hpre with
    | [i], _ => exact ⟨i, rfl⟩
  have le := Paired.length e5
  have lk : kvs.length = (Sx05.known l).length := by
    rw [le, tally_eq, List.length_map]
    rfl
  have stp : Sx05.step l (.piece i) = (l, match (Sx05.known l)[i]? with
    | none => Sx05.ok (-2)
    | some p => ⟨Sx05.num ((Sx05.allPieces l).count p), Sx05.num p.seam :: (Sx05.listOut p.form ++ Sx05.listOut p.gloss)⟩) := rfl
  have k : ∀ (H' : Hp) (p : Addr), Same (Off H dk) (Off H' dk) → DeskAt P w A S H' dk l → H p = none → H' p = some (.lst (iis (ansOf (Sx05.step l (.piece i)).2))) → Q (.ref p) H' := k
  have hsz : (ansOf (Sx05.step l (.piece i)).2).length ≤ 1000000 := hsz
  rw [stp] at k hsz
  refine ⟨_, rfl, nb, _, _, _, rfl, rfl, .of hnb, atI_nat (j := 0) rfl, ?_⟩
  refine ⟨_, rfl, _, rfl, dk, A.Desk, ddx, _, _, rfl, hdk, B.cl, B.n1, lk1, tx, A.Text, dx, _, _, rfl, e1, T.cl, T.n3, lk3 (by decide +kernel) (by decide +kernel), kp, _, rfl, .inl (.of e4), _, _, rfl, rfl, _, rfl, ?_⟩
  rw [List.length_map, lk]
  by_cases c1 : (Sx05.known l).length ≤ i
  · refine if_true_of (decide_eq_true (by omega)) ?_
    refine ⟨by show 1 ≤ sizeLine; decide, fun q nq => ?_⟩
    have s1 : Same H (upd H q (.lst [.int (-2)])) := Same.new nq
    refine k _ q (Off.mono s1) (hDk.same s1) nq ?_
    rw [upd_same, List.getElem?_eq_none c1]
    rfl
  refine if_false_of (decide_eq_false (by omega)) ?_
  have hx : (Sx05.known l)[i]? = some (Sx05.known l)[i] := List.getElem?_eq_getElem (by omega)
  generalize (Sx05.known l)[i] = pc at hx
  rw [hx] at k hsz
  have hmem : pc ∈ Sx05.allPieces l := List.mem_eraseDups.mp (List.mem_of_getElem? hx)
  have ht : (tally (Sx05.allPieces l))[i]? = some (pc, (Sx05.allPieces l).count pc) := by
    rw [tally_eq, List.getElem?_map]
    show Option.map _ (Sx05.known l)[i]? = _
    rw [hx]
    rfl
  obtain ⟨y, hy1, hy2, hy3, hy4⟩ := paired_getR e5 ht
  have hat : (kvs.map fun y => V.ref y.2.1)[i]? = some (.ref y.2.1) := by rw [List.getElem?_map, hy1]; rfl
  obtain ⟨qf, qg, g1, g2, g3⟩ := id hy3
  have lens : pc.form.length ≤ 1000000 ∧ pc.gloss.length ≤ 1000000 := by
    have z : (ansOf ⟨Sx05.num ((Sx05.allPieces l).count pc), Sx05.num pc.seam :: (Sx05.listOut pc.form ++ Sx05.listOut pc.gloss)⟩).length = pc.form.length + pc.gloss.length + 4 := by
      unfold ansOf
      simp only [listOut_eq, List.length_cons, List.length_append, List.length_map]
      omega
    have hsz : (ansOf ⟨Sx05.num ((Sx05.allPieces l).count pc), Sx05.num pc.seam :: (Sx05.listOut pc.form ++ Sx05.listOut pc.gloss)⟩).length ≤ 1000000 := hsz
    omega
  refine ⟨_, rfl, dk, A.Desk, ddx, _, _, rfl, hdk, B.cl, B.n1, lk1, tx, A.Text, dx, _, _, rfl, e1, T.cl, T.n3, lk3 (by decide +kernel) (by decide +kernel), _, rfl, kp, _, _, _, rfl, rfl, .of e4, atI_nat hat, ?_⟩
  have hta := tal_at (p := pc) e5
  rw [cnt_tally hmem] at hta
  obtain ⟨pr, hpr, hpr2⟩ : ∃ pr, atN kvs (keyOf pc) = some pr ∧ pr.2 = ni ((Sx05.allPieces l).count pc) := by
    cases q : atN kvs (keyOf pc) with
    | none =>
      rw [q] at hta
      cases hta
    | some pr =>
      rw [q] at hta
      exact ⟨pr, rfl, Option.some.inj hta⟩
  refine ⟨_, rfl, dk, A.Desk, ddx, _, _, rfl, hdk, B.cl, B.n1, lk1, tx, A.Text, dx, _, _, rfl, e1, T.cl, T.n2, lk2 (by decide +kernel), _, rfl, d, kvs, keyOf pc, y.2.1, pr, rfl, e3, e5.keyed, rfl, nk_pc hy3, keyOf_depth _, hpr, _, rfl, y.2.1, _, _, _, rfl, rfl, .of g1, atI_nat (j := 0) rfl, by show 2 ≤ sizeLine; decide, fun n3 nn3 => ?_⟩
  rw [hpr2] at *
  have s3 : Same H (upd H n3 (.lst [ni ((Sx05.allPieces l).count pc), ni pc.seam])) := Same.new nn3
  have h3 : upd H n3 (.lst [ni ((Sx05.allPieces l).count pc), ni pc.seam]) n3 = some (.lst [ni ((Sx05.allPieces l).count pc), ni pc.seam]) := upd_same
  generalize upd H n3 (.lst [ni ((Sx05.allPieces l).count pc), ni pc.seam]) = H3 at *
  refine ⟨_, rfl, y.2.1, _, _, _, rfl, rfl, .of (s3 _ _ g1), atI_nat (j := 1) rfl, qf, _, rfl, .inr (.of (s3 _ _ g2)), fun n1 nn1 => ?_⟩
  have s1 : Same H3 (upd H3 n1 (.lst (nis pc.form))) := Same.new nn1
  have h1 : upd H3 n1 (.lst (nis pc.form)) n1 = some (.lst (nis pc.form)) := upd_same
  generalize upd H3 n1 (.lst (nis pc.form)) = H1 at *
  refine ⟨n1, _, rfl, h1, by rw [nis_length]; omega, fun H4 n4 s4 nn4 h4 => ?_⟩
  have s34 := s1.trans s4
  refine ⟨n3, n4, _, _, rfl, rfl, s34 _ _ h3, h4, ?_, fun n5 nn5 => ?_⟩
  · simp only [List.length_cons, List.length_nil, nis_length, sizeLine_eq]
    omega
  have s5 : Same H4 (upd H4 n5 (.lst ([ni ((Sx05.allPieces l).count pc), ni pc.seam] ++ (.int ((nis pc.form).length : Int) :: nis pc.form)))) := Same.new nn5
  have h5 : upd H4 n5 (.lst ([ni ((Sx05.allPieces l).count pc), ni pc.seam] ++ (.int ((nis pc.form).length : Int) :: nis pc.form))) n5 = some (.lst ([ni ((Sx05.allPieces l).count pc), ni pc.seam] ++ (.int ((nis pc.form).length : Int) :: nis pc.form))) := upd_same
  generalize upd H4 n5 (.lst ([ni ((Sx05.allPieces l).count pc), ni pc.seam] ++ (.int ((nis pc.form).length : Int) :: nis pc.form))) = H5 at *
  have s05 := (s3.trans s34).trans s5
  refine ⟨_, rfl, y.2.1, _, _, _, rfl, rfl, .of (s05 _ _ g1), atI_nat (j := 2) rfl, qg, _, rfl, .inr (.of (s05 _ _ g3)), fun n2 nn2 => ?_⟩
  have s2 : Same H5 (upd H5 n2 (.lst (nis pc.gloss))) := Same.new nn2
  have h2 : upd H5 n2 (.lst (nis pc.gloss)) n2 = some (.lst (nis pc.gloss)) := upd_same
  generalize upd H5 n2 (.lst (nis pc.gloss)) = H2 at *
  refine ⟨n2, _, rfl, h2, by rw [nis_length]; omega, fun H6 n6 s6 nn6 h6 => ?_⟩
  have s56 := s2.trans s6
  refine ⟨n5, n6, _, _, rfl, rfl, s56 _ _ h5, h6, ?_, fun n7 nn7 => ?_⟩
  · simp only [List.length_append, List.length_cons, List.length_nil, nis_length, sizeLine_eq]
    omega
  have s06 := s05.trans s56
  have s07 := s06.trans (Same.new (o := .lst ([ni ((Sx05.allPieces l).count pc), ni pc.seam] ++ (.int ((nis pc.form).length : Int) :: nis pc.form) ++ (.int ((nis pc.gloss).length : Int) :: nis pc.gloss))) nn7)
  refine k _ n7 (Off.mono s07) (hDk.same s07) (s06.free nn7) ?_
  rw [upd_same]
  unfold iis ansOf
  simp only [listOut_eq, List.map_cons, List.map_append, List.map_map, nis_length]
  rfl
end
end G

end

section
set_option Elab.async false
set_option linter.all false
set_option maxRecDepth 100000
set_option maxHeartbeats 4000000
namespace G
open PySem PySem.Spec PyProof.Rows L2 GR
/-! ### joined -/
def spJoined : Sp := fun vs H Q _ => ∃ (a : Addr) (as : List Addr) (rows : List (List V)), vs = [.ref a] ∧ H a = some (.lst (as.map V.ref)) ∧ Paired (fun b r => H b = some (.lst r)) as rows ∧ rows.flatten.length ≤ 2000000 ∧
  ∀ H' p, Same H H' → H p = none → H' p = some (.lst rows.flatten) → Q (.ref p) H'
theorem flat_take_le {α : Type} : ∀ (n : Nat) (rows : List (List α)), (rows.take n).flatten.length ≤ rows.flatten.length
  | 0, _ => Nat.zero_le _
  | n + 1, [] => Nat.le_refl _
  | n + 1, r :: rows => by
    have ih := flat_take_le n rows
    rw [List.take_succ_cons, List.flatten_cons, List.flatten_cons, List.length_append, List.length_append]
    omega
/-- what a dict of numbers has -/
theorem NumD.get {H : Hp} {d b : Addr} {G : Grp} {bs : Bytes} (h : NumD H d G) (hb : H b = some (.tup (nis bs))) : ∃ o, DGet H d (.ref b) o ∧ ((gat G bs = none ∧ o = none) ∨ ∃ a l, gat G bs = some l ∧ o = some (.ref a) ∧ H a = some (.lst (nis l))) := by
  obtain ⟨as, e, r⟩ := h
  refine ⟨_, DGet.t (k := keyB bs) e (by rw [keyB_kV]; exact hb), ?_⟩
  rcases zipD_at (b := bs) r with ⟨h1, h2⟩ | ⟨a, l, h1, h2, h3, _⟩
  · exact .inl ⟨h1, h2⟩
  · exact .inr ⟨a, l, h1, h2, h3⟩
theorem NumD.isD {H : Hp} {d : Addr} {G : Grp} (h : NumD H d G) : IsD H d := by
  obtain ⟨as, e, _⟩ := h
  exact .inr ⟨_, .inl e⟩
section
variable {P : Program} {w : World} {K : PySem.W.Frag} {mg : Str → Option Value} {base : Heap} {A : Adr} {f1 f2 f3 : Addr}
theorem sc_joined : FnScope ["rows", "numbers", "row"] ["rows"] (defScope s_joined) := ⟨rfl, rfl, rfl, by decide +kernel, rfl, by decide +kernel, by decide +kernel⟩
theorem ok_joined {f : Addr} {fd : FuncData} (F : Fun K "joined" "joined" s_joined f fd) : FnOk P w K mg base CX0 1 f fd ["rows"] spJoined := by
  refine F.ok sc_joined (fun vs H Q E h => ?_) (fun cdv Ar outer s H vs Q E hr h => ?_)
  · obtain ⟨a, as, rows, rfl, _⟩ := h
    rfl
  refine ⟨_, pss_cons (ps_set (i := 1) sc_joined.nd rfl (.inl rfl) (pe_lst pa_nil))
    (pss_cons (ps_for PassesOwn.never rfl (pi_list (pv 0)) (pg_name (i := 2) sc_joined.nd rfl (.inl rfl))
      (pss_one (ps_expr (pe_bm PySem.F.plainAttrs_list PySem.F.slot_list_extend PySem.F.type_list_extend mt_extend (pv 1) (pa_cons (pv 2) pa_nil)))))
    (pss_one (ps_ret (pv 1)))), ?_⟩
  obtain ⟨a, as, rows, rfl, ha, pr, hl, k⟩ := h
  have la := Paired.length pr
  refine ⟨Nat.zero_le _, fun p np => ?_⟩
  have s1 : Same H (upd H p (.lst [])) := Same.new np
  refine ⟨_, rfl, a, rfl, ⟨_, .of (s1 _ _ ha)⟩, ?_⟩
  refine for_it (walk_list (K := K) (a := a) (xs := as.map V.ref)) (fun i σ H' => ∃ v2 : Option V, σ = [some (.ref a), some (.ref p), v2] ∧ Same H H' ∧ H' p = some (.lst (rows.take i).flatten)) ?_ ?_ ?_ ?_
  · exact ⟨none, rfl, s1, upd_same⟩
  · rintro i σ H' hi ⟨v2, _, s2, _⟩
    exact .of (s2 _ _ ha)
  · rintro i v σ H1 H2 hi ⟨v2, rfl, s2, hp⟩ ⟨rfl, hv⟩
    rw [List.getElem?_map] at hv
    obtain ⟨b, hb1, rfl⟩ := Option.map_eq_some_iff.mp hv
    obtain ⟨r, hr1, hr2⟩ := paired_get pr hb1
    have e : (rows.take (i + 1)).flatten = (rows.take i).flatten ++ r := by
      rw [List.take_add_one, hr1, List.flatten_append]
      simp
    have hle := flat_take_le (i + 1) rows
    rw [e, List.length_append] at hle
    refine ⟨_, rfl, .inl ⟨rfl, _, .of hp⟩, _, rfl, p, b, _, _, rfl, rfl, hp, s2 _ _ hr2, ?_, ?_⟩
    · rw [sizeLine_eq]
      omega
    · refine ⟨_, rfl, Same.put s2 np, ?_⟩
      rw [upd_same, e]
  · rintro σ H1 ⟨v2, rfl, s2, hp⟩
    rw [List.length_map, la, List.take_length] at hp
    exact ⟨_, rfl, k _ p s2 np hp⟩
/-! ### glosses, forms -/
theorem sc_glosses : FnScope ["desk", "numbers"] ["desk", "numbers"] (defScope s_glosses) := ⟨rfl, rfl, rfl, by decide +kernel, rfl, by decide +kernel, by decide +kernel⟩
theorem ok_glosses {f : Addr} {fd : FuncData} (F : Fun K "glosses" "glosses" s_glosses f fd) (T : TxT P w K mg base A) (B : DkT K A) (D2 : Def P w K mg base CX0 1 "counted" f2 ["numbers"] spCounted) (mT : mg "tuple" = none) :
    FnOk P w K mg base CX0 2 f fd ["desk", "numbers"] (spDesk P w A (fun ns => .glosses ns) fun ns => ns.length ≤ 100) := by
  refine F.ok sc_glosses (fun vs H Q E h => ?_) (fun cdv Ar outer s H vs Q E hr h => ?_)
  · obtain ⟨S, dk, nb, ns, l, rfl, _⟩ := h
    rfl
  refine ⟨_, pss_one (ps_ret (pe_def D2 hr pass0 (pa_cons (pe_dget2 (hu_of hr) (pe_fld (pe_fld (pv 0) rfl) rfl) (pe_callTy call_tuple_of (by rfl) mT (by decide +kernel) (by exact (pa_cons (pv 1) pa_nil))) (pe_lst pa_nil) ⟨rfl, rfl, rfl, rfl⟩) pa_nil))), ?_⟩
  obtain ⟨S, dk, nb, ns, l, rfl, hSd, hS, hDk, hok, hnb, hpre, hsz, k⟩ := h
  obtain ⟨ddx, tx, hdk, hT⟩ := id hDk
  obtain ⟨dx, p, d, kp, kvs, X, e1, e2, e3, e4, e5, e6, e7, e8⟩ := hT.same Hd.sub
  have hsz : (ansOf (Sx05.step l (.glosses ns)).2).length ≤ 1000000 := hsz
  have stp : ansOf (Sx05.step l (.glosses ns)).2 = Sx05.num (Sx05.numbersOf l fun p => p.form == ns).length :: (Sx05.numbersOf l fun p => p.form == ns).map Sx05.num := rfl
  have k : ∀ (H' : Hp) (p : Addr), Same (Off H dk) (Off H' dk) → DeskAt P w A S H' dk l → H p = none → H' p = some (.lst (iis (ansOf (Sx05.step l (.glosses ns)).2))) → Q (.ref p) H' := k
  rw [stp] at hsz k
  have en : Sx05.numbersOf l (fun p => p.form == ns) = (gat (gForm (kNum l)) ns).getD [] := by
    rw [numbersOf_is]
    unfold gForm
    rw [gat_getD]
    rfl
  refine ⟨_, rfl, dk, A.Desk, ddx, _, _, rfl, hdk, B.cl, B.n1, lk1, tx, A.Text, dx, _, _, rfl, e1, T.cl, T.n4, lkn (by decide +kernel) (lk3 (by decide +kernel) (by decide +kernel)), X.bf, rfl, e7.1.isD, _, rfl, nb, _, rfl, .inl ⟨.of hnb, fun t nt => ?_⟩⟩
  have s1 : Same H (upd H t (.tup (nis ns))) := Same.new nt
  have ht : upd H t (.tup (nis ns)) t = some (.tup (nis ns)) := upd_same
  generalize upd H t (.tup (nis ns)) = H1 at *
  refine ⟨Nat.zero_le _, fun z nz => ?_⟩
  have s2 : Same H1 (upd H1 z (.lst [])) := Same.new nz
  have hz : upd H1 z (.lst []) z = some (.lst []) := upd_same
  have s02 := s1.trans s2
  generalize upd H1 z (.lst []) = H2 at *
  obtain ⟨o, ho1, ho2⟩ := (e7.1.same s02).get (s2 _ _ ht)
  have hres : ∃ r, o.getD (.ref z) = .ref r ∧ H2 r = some (.lst (nis ((gat (gForm (kNum l)) ns).getD []))) := by
    rcases ho2 with ⟨h1, h2⟩ | ⟨a, m, h1, h2, h3⟩
    · rw [h1, h2]
      exact ⟨z, rfl, hz⟩
    · rw [h1, h2]
      exact ⟨a, rfl, h3⟩
  obtain ⟨r, hr1, hr2⟩ := hres
  rw [← en] at hr2
  have hl2 : (Sx05.numbersOf l fun p => p.form == ns).length ≤ 1000000 := by
    rw [List.length_cons, List.length_map] at hsz
    omega
  refine ⟨o, ho1, ?_⟩
  rw [hr1]
  refine ⟨r, _, rfl, hr2, by rw [nis_length]; omega, fun H3 q s3 nq hq => ?_⟩
  have s03 := s02.trans s3
  refine k _ q (Off.mono s03) (hDk.same s03) (s02.free nq) ?_
  rw [hq, nis_length]
  unfold iis
  rw [List.map_cons, List.map_map]
  rfl
theorem sc_forms : FnScope ["desk", "numbers"] ["desk", "numbers"] (defScope s_forms) := ⟨rfl, rfl, rfl, by decide +kernel, rfl, by decide +kernel, by decide +kernel⟩
theorem ok_forms {f : Addr} {fd : FuncData} (F : Fun K "forms" "forms" s_forms f fd) (T : TxT P w K mg base A) (B : DkT K A) (D2 : Def P w K mg base CX0 1 "counted" f2 ["numbers"] spCounted) (mT : mg "tuple" = none) :
    FnOk P w K mg base CX0 2 f fd ["desk", "numbers"] (spDesk P w A (fun ns => .forms ns) fun ns => ns.length ≤ 100) := by
  refine F.ok sc_forms (fun vs H Q E h => ?_) (fun cdv Ar outer s H vs Q E hr h => ?_)
  · obtain ⟨S, dk, nb, ns, l, rfl, _⟩ := h
    rfl
  refine ⟨_, pss_one (ps_ret (pe_def D2 hr pass0 (pa_cons (pe_dget2 (hu_of hr) (pe_fld (pe_fld (pv 0) rfl) rfl) (pe_callTy call_tuple_of (by rfl) mT (by decide +kernel) (by exact (pa_cons (pv 1) pa_nil))) (pe_lst pa_nil) ⟨rfl, rfl, rfl, rfl⟩) pa_nil))), ?_⟩
  obtain ⟨S, dk, nb, ns, l, rfl, hSd, hS, hDk, hok, hnb, hpre, hsz, k⟩ := h
  obtain ⟨ddx, tx, hdk, hT⟩ := id hDk
  obtain ⟨dx, p, d, kp, kvs, X, e1, e2, e3, e4, e5, e6, e7, e8⟩ := hT.same Hd.sub
  have hsz : (ansOf (Sx05.step l (.forms ns)).2).length ≤ 1000000 := hsz
  have stp : ansOf (Sx05.step l (.forms ns)).2 = Sx05.num (Sx05.numbersOf l fun p => p.gloss == ns).length :: (Sx05.numbersOf l fun p => p.gloss == ns).map Sx05.num := rfl
  have k : ∀ (H' : Hp) (p : Addr), Same (Off H dk) (Off H' dk) → DeskAt P w A S H' dk l → H p = none → H' p = some (.lst (iis (ansOf (Sx05.step l (.forms ns)).2))) → Q (.ref p) H' := k
  rw [stp] at hsz k
  have en : Sx05.numbersOf l (fun p => p.gloss == ns) = (gat (gGloss (kNum l)) ns).getD [] := by
    rw [numbersOf_is]
    unfold gGloss
    rw [gat_getD]
    rfl
  refine ⟨_, rfl, dk, A.Desk, ddx, _, _, rfl, hdk, B.cl, B.n1, lk1, tx, A.Text, dx, _, _, rfl, e1, T.cl, T.n5, lkn (by decide +kernel) (lkn (by decide +kernel) (lk3 (by decide +kernel) (by decide +kernel))), X.bg, rfl, e7.2.1.isD, _, rfl, nb, _, rfl, .inl ⟨.of hnb, fun t nt => ?_⟩⟩
  have s1 : Same H (upd H t (.tup (nis ns))) := Same.new nt
  have ht : upd H t (.tup (nis ns)) t = some (.tup (nis ns)) := upd_same
  generalize upd H t (.tup (nis ns)) = H1 at *
  refine ⟨Nat.zero_le _, fun z nz => ?_⟩
  have s2 : Same H1 (upd H1 z (.lst [])) := Same.new nz
  have hz : upd H1 z (.lst []) z = some (.lst []) := upd_same
  have s02 := s1.trans s2
  generalize upd H1 z (.lst []) = H2 at *
  obtain ⟨o, ho1, ho2⟩ := (e7.2.1.same s02).get (s2 _ _ ht)
  have hres : ∃ r, o.getD (.ref z) = .ref r ∧ H2 r = some (.lst (nis ((gat (gGloss (kNum l)) ns).getD []))) := by
    rcases ho2 with ⟨h1, h2⟩ | ⟨a, m, h1, h2, h3⟩
    · rw [h1, h2]
      exact ⟨z, rfl, hz⟩
    · rw [h1, h2]
      exact ⟨a, rfl, h3⟩
  obtain ⟨r, hr1, hr2⟩ := hres
  rw [← en] at hr2
  have hl2 : (Sx05.numbersOf l fun p => p.gloss == ns).length ≤ 1000000 := by
    rw [List.length_cons, List.length_map] at hsz
    omega
  refine ⟨o, ho1, ?_⟩
  rw [hr1]
  refine ⟨r, _, rfl, hr2, by rw [nis_length]; omega, fun H3 q s3 nq hq => ?_⟩
  have s03 := s02.trans s3
  refine k _ q (Off.mono s03) (hDk.same s03) (s02.free nq) ?_
  rw [hq, nis_length]
  unfold iis
  rw [List.map_cons, List.map_map]
  rfl
end
end G

end

section
set_option Elab.async false
set_option linter.all false
set_option maxRecDepth 100000
set_option maxHeartbeats 4000000
namespace G
open PySem PySem.Spec PyProof.Rows L2 GR
def twoG (gs : List Bytes) : Bool := gs.any fun g => !(g == gs.headD [])
def spTwo (A : Adr) : Sp := fun vs H Q _ => ∃ (tx fm dx kp bf : Addr) (fs : List (Str × V)) (ks as : List Addr) (ps : List Pie) (G : Grp) (b : Bytes) (ns : List Nat) (gs : List Bytes), vs = [.ref tx, .ref fm] ∧ H tx = some (.ins A.Text dx fs) ∧ List.lookup ("known_pieces" : Str) fs = some (V.ref kp) ∧ List.lookup ("by_form" : Str) fs = some (V.ref bf) ∧
  H kp = some (.lst (ks.map V.ref)) ∧ Paired (PcAt H) ks ps ∧ Rd H bf (.dT (zipD as G)) ∧ Paired (LsAt H) as G ∧ gat G b = some ns ∧ Paired (fun n g => ∃ p, ps[n]? = some p ∧ p.gloss = g) ns gs ∧ ns.length ≤ 14400 ∧ H fm = some (.tup (nis b)) ∧ ∀ H', Same H H' → Q (.bl (twoG gs)) H'
theorem two_at {H : Hp} {ks : List Addr} {ps : List Pie} (hk : Paired (PcAt H) ks ps) : ∀ {ns : List Nat} {gs : List Bytes}, Paired (fun n g => ∃ p, ps[n]? = some p ∧ p.gloss = g) ns gs →
    ∃ qs : List Addr, Paired (fun q b => H q = some (.tup (nis b))) qs gs ∧ ∀ (i n : Nat), ns[i]? = some n → ∃ (c f g : Addr) (s : V), ks[n]? = some c ∧ H c = some (.tup [s, .ref f, .ref g]) ∧ qs[i]? = some g
  | _, _, .nil => ⟨[], .nil, fun i n h => by simp at h⟩
  | _, _, .cons r t => by
    obtain ⟨qs, h1, h2⟩ := two_at hk t
    obtain ⟨p, hp, rfl⟩ := r
    obtain ⟨c, hc, f, g, e1, e2, e3⟩ := paired_getR hk hp
    refine ⟨g :: qs, .cons e3 h1, fun i n h => ?_⟩
    cases i with
    | zero =>
      have h : some _ = some n := h
      cases h
      exact ⟨c, f, g, _, hc, e1, rfl⟩
    | succ i => exact h2 i n h
section
variable {P : Program} {w : World} {K : PySem.W.Frag} {mg : Str → Option Value} {base : Heap} {A : Adr} {f1 f2 f3 : Addr}
abbrev nTw : List Str := ["text", "form", "glosses", "number", "gloss"]
theorem sc_has_two_glosses : FnScope nTw ["text", "form"] (defScope s_has_two_glosses) := ⟨rfl, rfl, rfl, by decide +kernel, rfl, by decide +kernel, by decide +kernel⟩
theorem ok_has_two_glosses {f : Addr} {fd : FuncData} (F : Fun K "has_two_glosses" "has_two_glosses" s_has_two_glosses f fd) (cl : Cls K A.Text) (n3 : NoAttr K A.Text "known_pieces") (n4 : NoAttr K A.Text "by_form") (mA : mg "any" = none)
    {t2 : Tok} (m2 : mg "GLOSS" = some (.int 2 t2)) : FnOk P w K mg base CX0 1 f fd ["text", "form"] (spTwo A) := by
  refine F.ok sc_has_two_glosses (fun vs H Q E h => ?_) (fun cdv Ar outer s H vs Q E hr h => ?_)
  · obtain ⟨tx, fm, dx, kp, bf, fs, ks, as, ps, G, b, ns, gs, rfl, _⟩ := h
    rfl
  refine ⟨_, pss_cons (ps_set (i := 2) sc_has_two_glosses.nd rfl (.inr rfl) (pe_lc (own := [("number", 3)]) (g := gName 3) (tt := tYes) (te := tOp (rIxT K) (tOp (rIxL K) (tFld K (tVar 0) "known_pieces") (tVar 3)) (tC (.int 2))) rfl sc_has_two_glosses.nd
      (pi_list (pe_dget (hu_of hr) (pe_fld (pv 0) rfl) (pv 1) (fun _ _ => rfl))) (blkOk_by (N := nTw) (sc := defScope s_has_two_glosses) (by decide +kernel)) (fun _ _ _ _ _ => pg_name (i := 3) sc_has_two_glosses.nd rfl (Or.inl rfl)) (fun _ _ _ _ _ => pts_nil)
      (fun _ _ _ _ _ => by exact (pe_ix ix_tup (pe_ix ix_list (pe_fld (pv 0) rfl) (pv 3) (fun _ _ => rfl)) (pe_glob (v := .int 2) rfl m2 ⟨_, rfl⟩) (fun _ _ => rfl)))))
    (pss_one (ps_ret (pe_callB (cr_any rfl) (by rfl) mA (by decide +kernel) (by exact (pa_cons (pe_lc (own := [("gloss", 4)]) (g := gName 4) (tt := tYes) (te := tOp (rNeD K) (tVar 4) (tOp (rIxL K) (tVar 2) (tC (.int 0)))) rfl sc_has_two_glosses.nd
      (pi_list (pv 2)) (blkOk_by (N := nTw) (sc := defScope s_has_two_glosses) (by decide +kernel)) (fun _ _ _ _ _ => pg_name (i := 4) sc_has_two_glosses.nd rfl (Or.inl rfl)) (fun _ _ _ _ _ => pts_nil)
      (fun _ _ _ _ _ => by exact (pe_cmpR (op_neD hr.units) (pv 4) (pe_ix ix_list (pv 2) pe_int (fun _ _ => rfl)) (nomark _)))) pa_nil))))), ?_⟩
  obtain ⟨tx, fm, dx, kp, bf, fs, ks, as, ps, G, b, ns, gs, rfl, htx, hf1, hf2, hkp, hks, hbf, has, hga, hng, hnl, hfm, k⟩ := h
  obtain ⟨qs, pq, hq⟩ := two_at hks hng
  have ln := Paired.length hng
  have lq := Paired.length pq
  obtain ⟨a, ha1, ha2⟩ : ∃ a, valV (zipD as G) (keyB b) = some (.ref a) ∧ H a = some (.lst (nis ns)) := by
    rcases zipD_at (b := b) has with ⟨h1, _⟩ | ⟨a, l, h1, h2, h3, _⟩
    · rw [hga] at h1
      cases h1
    · rw [hga] at h1
      cases h1
      exact ⟨a, h2, h3⟩
  refine ⟨_, rfl, tx, A.Text, dx, _, _, rfl, htx, cl, n4, hf2, _, rfl, bf, .ref a, rfl, .inr ⟨_, keyB b, fm, hbf, rfl, by rw [keyB_kV]; exact hfm, ha1.symm⟩, a, rfl, ⟨_, .of ha2⟩, fun D nD => ?_⟩
  have sN : ∀ {o}, Same H (upd H D o) := Same.new nD
  refine lc_it (walk_list (K := K) (a := a) (xs := nis ns)) (fun i H' => H' = upd H D (.lst ((qs.take i).map V.ref))) rfl ?_ ?_ ?_
  · rintro i H' hi rfl
    exact .of (sN _ _ ha2)
  · rintro i v H1 H2 hi rfl ⟨rfl, hv⟩
    obtain ⟨n, hn, rfl⟩ := nis_get hv
    obtain ⟨c, ff, g, sv, h1, h2, h3⟩ := hq i n hn
    have hat : (ks.map V.ref)[n]? = some (.ref c) := by rw [List.getElem?_map, h1]; rfl
    rw [nis_length] at hi
    refine ⟨rfl, yes_of ?_⟩
    refine ⟨_, rfl, tx, A.Text, dx, _, _, rfl, sN _ _ htx, cl, n3, hf1, _, rfl, kp, _, _, _, rfl, rfl, .of (sN _ _ hkp), atI_nat hat, c, _, _, _, rfl, rfl, .of (sN _ _ h2), atI_nat (j := 2) rfl, _, upd_same, ?_, ?_⟩
    · rw [List.length_map, List.length_take, sizeLine_eq]
      omega
    · rw [upd_upd, take_map_succ h3]
  rintro H1 rfl
  have eq : qs.take (nis ns).length = qs := List.take_of_length_le (by rw [nis_length]; omega)
  rw [eq]
  have hD : upd H D (.lst (qs.map V.ref)) D = some (.lst (qs.map V.ref)) := upd_same
  have s1 : Same H (upd H D (.lst (qs.map V.ref))) := Same.new nD
  generalize upd H D (.lst (qs.map V.ref)) = H1 at *
  refine ⟨_, rfl, D, rfl, ⟨_, .of hD⟩, fun E nE => ?_⟩
  have sE : ∀ {o}, Same H1 (upd H1 E o) := Same.new nE
  have hb : ∀ i, (((gs.map fun g => !(g == gs.headD [])).take i).map V.bl) = ((gs.take i).map fun g => V.bl (!(g == gs.headD []))) := fun i => by
    rw [← List.map_take, List.map_map]
    rfl
  refine lc_it (walk_list (K := K) (a := D) (xs := qs.map V.ref)) (fun i H' => H' = upd H1 E (.lst ((gs.take i).map fun g => V.bl (!(g == gs.headD []))))) rfl ?_ ?_ ?_
  · rintro i H' hi rfl
    exact .of (sE _ _ hD)
  · rintro i v H2 H3 hi rfl ⟨rfl, hv⟩
    rw [List.getElem?_map] at hv
    obtain ⟨q, hq1, rfl⟩ := Option.map_eq_some_iff.mp hv
    obtain ⟨g, hg1, hg2⟩ := paired_get pq hq1
    rw [List.length_map] at hi
    obtain ⟨q0, g0, hq0, hg0, hz0⟩ : ∃ q0 g0, qs[0]? = some q0 ∧ gs.headD [] = g0 ∧ H q0 = some (.tup (nis g0)) := by
      have h0 : qs[0]? = some (qs[0]'(by omega)) := List.getElem?_eq_getElem (by omega)
      obtain ⟨g0, h1, h2⟩ := paired_get pq h0
      refine ⟨_, g0, h0, ?_, h2⟩
      cases gs with
      | nil => cases h1
      | cons x r =>
        have h1 : some x = some g0 := h1
        exact Option.some.inj h1
    have hat : (qs.map V.ref)[0]? = some (.ref q0) := by rw [List.getElem?_map, hq0]; rfl
    have s2 := s1.trans (sE (o := .lst ((gs.take i).map fun g => V.bl (!(g == gs.headD [])))))
    refine ⟨rfl, yes_of ?_⟩
    refine ⟨_, rfl, _, rfl, D, _, _, _, rfl, rfl, .of (sE _ _ hD), atI_nat (j := 0) hat, dTp g, dTp g0, dp_dTp (s2 _ _ hg2), dp_dTp (s2 _ _ hz0), shaped_dTp _, shaped_dTp _, _, upd_same, ?_, ?_⟩
    · rw [List.length_map, List.length_take, sizeLine_eq]
      omega
    · rw [upd_upd, eqv_dTp, List.take_add_one, hg1, List.map_append, hg0]
      congr 3
      show [V.bl (!decide (g = g0))] = [V.bl (!(g == g0))]
      congr 3
      rw [Bool.eq_iff_iff, decide_eq_true_iff, beq_iff_eq]
  rintro H2 rfl
  have eg : gs.take (qs.map V.ref).length = gs := List.take_of_length_le (by rw [List.length_map]; omega)
  rw [eg]
  refine ⟨E, gs.map fun g => !(g == gs.headD []), rfl, .of ?_, ?_⟩
  · rw [upd_same, List.map_map]
    rfl
  · have e : ((gs.map fun g => !(g == gs.headD [])).any id) = twoG gs := by
      rw [List.any_map]
      rfl
    rw [e]
    exact k _ (s1.trans sE)
end
end G

end

section
set_option Elab.async false
set_option linter.all false
set_option maxRecDepth 100000
set_option maxHeartbeats 4000000
namespace G
open PySem PySem.Spec PyProof.Rows L2 GR
theorem paired_map {α β γ : Type} {F : β → γ → Prop} {f : α → β} {g : α → γ} : ∀ {L : List α}, (∀ x ∈ L, F (f x) (g x)) → Paired F (L.map f) (L.map g)
  | [], _ => .nil
  | a :: l, h => .cons (h a List.mem_cons_self) (paired_map fun x hx => h x (List.mem_cons_of_mem _ hx))
theorem num_at {k : List Pie} {x : Nat × Pie} (h : x ∈ num k) : k[x.1]? = some x.2 := by
  obtain ⟨i, hi⟩ := List.mem_iff_getElem?.mp h
  rw [num_get] at hi
  obtain ⟨p, hp, rfl⟩ := Option.map_eq_some_iff.mp hi
  exact hp
/-- the glosses of a form -/
def glsOf (l : List Sx05.Item) (b : Bytes) : List Bytes := ((kNum l).filter fun x => x.2.form == b).map fun x => x.2.gloss
theorem unlike_two (l : List Sx05.Item) : Sx05.unlike l = ((gForm (kNum l)).map (·.1)).filter fun b => twoG (glsOf l b) := unlike_is l
theorem form_at {l : List Sx05.Item} {i : Nat} {b : Bytes} {z : List Nat} (h : (gForm (kNum l))[i]? = some (b, z)) : ∃ ns, gat (gForm (kNum l)) b = some ns ∧ Paired (fun n g => ∃ p, (Sx05.known l)[n]? = some p ∧ p.gloss = g) ns (glsOf l b) ∧ ns.length ≤ (kNum l).length := by
  have hm : (b, z) ∈ gForm (kNum l) := List.mem_of_getElem? h
  have hb : b ∈ (kNum l).map fun x => x.2.form := by
    unfold gForm grp at hm
    obtain ⟨c, hc, e⟩ := List.mem_map.mp hm
    have e1 : c = b := congrArg Prod.fst e
    rw [← e1]
    exact List.mem_eraseDups.mp hc
  have hg := gat_grp Sx05.Piece.form (kNum l) b
  rw [if_pos hb] at hg
  refine ⟨_, hg, paired_map fun x hx => ⟨x.2, num_at (List.mem_filter.mp hx).1, rfl⟩, ?_⟩
  rw [List.length_map]
  exact List.length_filter_le _ _
def spUnl (A : Adr) : Sp := fun vs H Q _ => ∃ (tx dx kp bf : Addr) (fs : List (Str × V)) (ks : List Addr) (l : List Sx05.Item), vs = [.ref tx] ∧ H tx = some (.ins A.Text dx fs) ∧ List.lookup ("known_pieces" : Str) fs = some (V.ref kp) ∧ List.lookup ("by_form" : Str) fs = some (V.ref bf) ∧
  H kp = some (.lst (ks.map V.ref)) ∧ Paired (PcAt H) ks (Sx05.known l) ∧ NumD H bf (gForm (kNum l)) ∧ (Sx05.known l).length ≤ 14400 ∧
  ∀ H' p qs, Same H H' → H p = none → H' p = some (.lst (qs.map V.ref)) → Paired (fun q b => H' q = some (.tup (nis b))) qs (Sx05.unlike l) → Q (.ref p) H'
section
variable {P : Program} {w : World} {K : PySem.W.Frag} {mg : Str → Option Value} {base : Heap} {A : Adr} {f1 f2 f3 : Addr}
theorem sc_unlike_forms : FnScope ["text", "form"] ["text"] (defScope s_unlike_forms) := ⟨rfl, rfl, rfl, by decide +kernel, rfl, by decide +kernel, by decide +kernel⟩
theorem ok_unlike_forms {f : Addr} {fd : FuncData} (F : Fun K "unlike_forms" "unlike_forms" s_unlike_forms f fd) (cl : Cls K A.Text) (n4 : NoAttr K A.Text "by_form") (D1 : Def P w K mg base CX0 1 "has_two_glosses" f1 ["text", "form"] (spTwo A)) :
    FnOk P w K mg base CX0 2 f fd ["text"] (spUnl A) := by
  refine F.ok sc_unlike_forms (fun vs H Q E h => ?_) (fun cdv Ar outer s H vs Q E hr h => ?_)
  · obtain ⟨tx, dx, kp, bf, fs, ks, l, rfl, _⟩ := h
    rfl
  refine ⟨_, pss_one (ps_ret (pe_lock (pe_lc (own := [("form", 1)]) (g := gName 1) (tt := tB (teCall (spTwo A) (tCons (tVar 0) (tCons (tVar 1) tNil)))) (te := tVar 1) rfl sc_unlike_forms.nd
      (pi_keys (pe_fld (pv 0) rfl)) (blkOk_by (N := ["text", "form"]) (sc := defScope s_unlike_forms) (by decide +kernel)) (fun _ _ _ _ _ => pg_name (i := 1) sc_unlike_forms.nd rfl (Or.inl rfl))
      (fun _ _ _ _ _ => pts_one (by exact (pt_val (pe_def D1 hr pass0 (pa_cons (pv 0) (pa_cons (pv 1) pa_nil)))))) (fun _ _ _ _ _ => pv 1)))), ?_⟩
  obtain ⟨tx, dx, kp, bf, fs, ks, l, rfl, htx, hf1, hf2, hkp, hks, ⟨as, hbf, has⟩, hlen, k⟩ := h
  have la := Paired.length has
  have lz := zipD_len la
  refine ⟨bf, _, hbf, trivial, fun od => ?_⟩
  -- what stands beside the dict
  have sF : Same (Off H bf) (upd H bf (.frz od (.dT (zipD as (gForm (kNum l)))))) := fun b o e => by
    have hb : b ≠ bf := fun z => by rw [z, Off.at] at e; cases e
    rw [Off.ne hb] at e
    rw [upd_ne hb]
    exact e
  have off : ∀ {b o}, H b = some o → o ≠ .dT (zipD as (gForm (kNum l))) → Off H bf b = some o := fun {b o} e hne => by
    rw [Off.ne fun z => hne (by rw [z, hbf] at e; cases e; rfl)]
    exact e
  have hFbf : upd H bf (.frz od (.dT (zipD as (gForm (kNum l))))) bf = some (.frz od (.dT (zipD as (gForm (kNum l))))) := upd_same
  have htx1 := sF _ _ (off htx (fun z => by cases z))
  have hkp1 := sF _ _ (off hkp (fun z => by cases z))
  have hks1 : Paired (PcAt (upd H bf (.frz od (.dT (zipD as (gForm (kNum l))))))) ks (Sx05.known l) := Paired.mapP hks fun a p ⟨ff, gg, e1, e2, e3⟩ => ⟨ff, gg, sF _ _ (off e1 fun z => by cases z), sF _ _ (off e2 fun z => by cases z), sF _ _ (off e3 fun z => by cases z)⟩
  have has1 : Paired (LsAt (upd H bf (.frz od (.dT (zipD as (gForm (kNum l))))))) as (gForm (kNum l)) := Paired.mapP has fun a z e => sF _ _ (off e fun q => by cases q)
  have free1 : ∀ b, upd H bf (.frz od (.dT (zipD as (gForm (kNum l))))) b = none → H b = none := fun b e => by
    by_cases hb : b = bf
    · rw [hb, upd_same] at e
      cases e
    · rw [upd_ne hb] at e
      exact e
  generalize hHF : upd H bf (.frz od (.dT (zipD as (gForm (kNum l))))) = HF at *
  have lg := grp_len Sx05.Piece.form _ (kNum l) rfl
  have lg : (gForm (kNum l)).length ≤ (kNum l).length := lg
  have lkn : (kNum l).length = (Sx05.known l).length := num_len _
  refine ⟨_, rfl, tx, A.Text, dx, _, _, rfl, htx1, cl, n4, hf2, bf, od, rfl, .inr ⟨_, hFbf, fun D nD => ?_⟩⟩
  have sD : Same HF (upd HF D (.lst [])) := Same.new nD
  have hDbf : bf ≠ D := fun z => by rw [← z, hFbf] at nD; cases nD
  refine lc_it (walk_keysT (d := bf) (o := od) (kvs := zipD as (gForm (kNum l)))) (fun i H' => ∃ qs : List Addr, Same HF H' ∧ H' D = some (.lst (qs.map V.ref)) ∧ qs.length ≤ i ∧ Paired (fun q b => H' q = some (.tup (nis b))) qs ((((gForm (kNum l)).map (·.1)).take i).filter fun b => twoG (glsOf l b))) ?_ ?_ ?_ ?_
  · exact ⟨[], sD, upd_same, Nat.le_refl _, by rw [List.take_zero]; exact .nil⟩
  · rintro i H' hi ⟨qs, s1, _⟩
    exact s1 _ _ hFbf
  · rintro i v H1 H2 hi ⟨qs, s1, hD, hq, pq⟩ ⟨rfl, ky, vv, q, hkv, rfl, hqt⟩
    rw [lz] at hi
    obtain ⟨b, z, hbz, rfl⟩ : ∃ b z, (gForm (kNum l))[i]? = some (b, z) ∧ ky = keyB b := by
      unfold zipD at hkv
      rw [List.getElem?_map] at hkv
      obtain ⟨y, hy, e⟩ := Option.map_eq_some_iff.mp hkv
      obtain ⟨h1, h2⟩ := List.getElem?_zip_eq_some.mp hy
      exact ⟨y.2.1, y.2.2, h2, (congrArg Prod.fst e).symm⟩
    rw [keyB_kV] at hqt
    obtain ⟨ns, hga, hng, hnl⟩ := form_at hbz
    have hb1 : ((gForm (kNum l)).map (·.1))[i]? = some b := by rw [List.getElem?_map, hbz]; rfl
    refine ⟨rfl, ?_⟩
    refine ⟨_, rfl, _, rfl, tx, q, dx, kp, bf, fs, ks, as, Sx05.known l, gForm (kNum l), b, ns, glsOf l b, rfl, s1 _ _ htx1, hf1, hf2, s1 _ _ hkp1, Paired.mapP hks1 fun _ _ y => y.same s1, .inr ⟨od, s1 _ _ hFbf⟩, Paired.mapP has1 fun _ _ y => s1 _ _ y, hga, hng, by omega, hqt, fun H3 s3 => ⟨_, rfl, ?_⟩⟩
    by_cases ht : twoG (glsOf l b) = true
    · refine if_true_of ht ?_
      have hqD : q ≠ D := fun y => by rw [y, hD] at hqt; cases hqt
      refine ⟨_, rfl, _, s3 _ _ hD, ?_, qs ++ [q], Same.put (s1.trans s3) nD, ?_, ?_, ?_⟩
      · rw [List.length_map, sizeLine_eq]
        omega
      · rw [upd_same, List.map_append]
        rfl
      · rw [List.length_append]
        exact Nat.add_le_add_right hq 1
      · rw [List.take_add_one, hb1, List.filter_append]
        have e : (Option.some b).toList.filter (fun b => twoG (glsOf l b)) = [b] := by
          show List.filter _ [b] = [b]
          rw [List.filter_cons_of_pos (p := fun b => twoG (glsOf l b)) ht, List.filter_nil]
        rw [e]
        refine paired_snoc (Paired.mapP pq fun a c y => ?_) ?_
        · have hne : a ≠ D := fun u => by rw [u, hD] at y; cases y
          rw [upd_ne hne]
          exact s3 _ _ y
        · rw [upd_ne hqD]
          exact s3 _ _ hqt
    · refine if_false_of (Bool.not_eq_true _ ▸ ht) ?_
      refine ⟨qs, s1.trans s3, s3 _ _ hD, Nat.le_succ_of_le hq, ?_⟩
      rw [List.take_add_one, hb1, List.filter_append]
      have e : (Option.some b).toList.filter (fun b => twoG (glsOf l b)) = [] := by
        show List.filter _ [b] = []
        rw [List.filter_cons_of_neg (p := fun b => twoG (glsOf l b)) ht, List.filter_nil]
      rw [e, List.append_nil]
      exact Paired.mapP pq fun _ _ y => s3 _ _ y
  rintro H1 ⟨qs, s1, hD, hq, pq⟩
  rw [lz, show (gForm (kNum l)).length = ((gForm (kNum l)).map (·.1)).length by rw [List.length_map], List.take_length, ← unlike_two] at pq
  refine ⟨s1 _ _ hFbf, k _ D qs (fun b o e => ?_) (free1 D nD) ?_ (Paired.mapP pq fun a c y => ?_)⟩
  · by_cases hb : b = bf
    · rw [hb, upd_same]
      rw [hb, hbf] at e
      exact e
    · rw [upd_ne hb]
      refine s1 _ _ (sF _ _ ?_)
      rw [Off.ne hb]
      exact e
  · rw [upd_ne (Ne.symm hDbf)]
    exact hD
  · have hne : a ≠ bf := fun u => by rw [u, s1 _ _ hFbf] at y; cases y
    rw [upd_ne hne]
    exact y
end
end G

end

section
set_option Elab.async false
set_option linter.all false
set_option maxRecDepth 100000
set_option maxHeartbeats 4000000
namespace G
open PySem PySem.Spec PyProof.Rows L2 GR
abbrev rListOf (K : PySem.W.Frag) : List V → Hp → VK → Prop := fun xs H Q => ∃ p ys, xs = [.ref p] ∧ (SqL K H p ys ∨ SqT K H p ys) ∧ ∀ l, H l = none → Q (.ref l) (upd H l (.lst ys))
/-- how many, then they -/
def cRow (l : List V) : List V := .int l.length :: l
theorem flat_one {U : List Bytes} {i : Nat} {b : Bytes} (h : U[i]? = some b) : b.length + 1 ≤ (U.flatMap Sx05.listOut).length := by
  have hm := List.mem_of_getElem? h
  clear h
  induction U with
  | nil => cases hm
  | cons x U ih =>
    rw [List.flatMap_cons, List.length_append]
    rcases List.mem_cons.mp hm with rfl | hm
    · rw [listOut_eq, List.length_cons, List.length_map]
      omega
    · have := ih hm
      omega
theorem paired_mapL {α β γ : Type} {F : β → γ → Prop} {f : α → β} : ∀ {l : List α} {m : List γ}, Paired (fun y p => F (f y) p) l m → Paired F (l.map f) m
  | _, _, .nil => .nil
  | _, _, .cons r t => .cons r (paired_mapL t)
section
variable {P : Program} {w : World} {K : PySem.W.Frag} {mg : Str → Option Value} {base : Heap} {A : Adr} {f1 f2 f3 : Addr}
abbrev nUn : List Str := ["desk", "numbers", "unlike_ones", "form"]
theorem sc_unlike : FnScope nUn ["desk", "numbers"] (defScope s_unlike) := ⟨rfl, rfl, rfl, by decide +kernel, rfl, by decide +kernel, by decide +kernel⟩
theorem ok_unlike {f : Addr} {fd : FuncData} (F : Fun K "unlike" "unlike" s_unlike f fd) (T : TxT P w K mg base A) (B : DkT K A) (D1 : Def P w K mg base CX0 2 "unlike_forms" f1 ["text"] (spUnl A)) (D2 : Def P w K mg base CX0 1 "counted" f2 ["numbers"] spCounted) (D3 : Def P w K mg base CX0 1 "joined" f3 ["rows"] spJoined)
    (mLen : mg "len" = none) (mL : mg "list" = none) : FnOk P w K mg base CX0 3 f fd ["desk", "numbers"] (spDesk P w A (fun _ => .unlike) fun _ => True) := by
  refine F.ok sc_unlike (fun vs H Q E h => ?_) (fun cdv Ar outer s H vs Q E hr h => ?_)
  · obtain ⟨S, dk, nb, ns, l, rfl, _⟩ := h
    rfl
  refine ⟨_, pss_cons (ps_set (i := 2) sc_unlike.nd rfl (.inl rfl) (pe_def D1 hr pass0 (pa_cons (pe_fld (pv 0) rfl) pa_nil)))
    (pss_one (ps_ret (pe_op op_cat (pe_lst (by exact (pa_cons (pe_callB call_len_seq (by rfl) mLen PySem.boot_len (by exact (pa_cons (pv 2) pa_nil))) pa_nil)))
      (pe_def D3 hr pass0 (pa_cons (pe_lc (own := [("form", 3)]) (g := gName 3) (tt := tYes) (te := teCall spCounted (tCons (tCB (rListOf K) (tCons (tVar 3) tNil)) tNil)) rfl sc_unlike.nd (pi_list (pv 2)) (blkOk_by (N := nUn) (sc := defScope s_unlike) (by decide +kernel))
        (fun _ _ _ _ _ => pg_name (i := 3) sc_unlike.nd rfl (Or.inl rfl)) (fun _ _ _ _ _ => pts_nil)
        (fun _ _ _ _ _ => by exact (pe_def D2 hr pass0 (pa_cons (pe_callTy call_list_of (by rfl) mL (by decide +kernel) (by exact (pa_cons (pv 3) pa_nil))) pa_nil)))) pa_nil))))), ?_⟩
  obtain ⟨S, dk, nb, ns, l, rfl, hSd, hS, hDk, hok, hnb, hpre, hsz, k⟩ := h
  obtain ⟨ddx, tx, hdk, hT⟩ := id hDk
  obtain ⟨dx, p, d, kp, kvs, X, e1, e2, e3, e4, e5, e6, e7, e8⟩ := hT.same Hd.sub
  have hsz : (ansOf (Sx05.step l .unlike).2).length ≤ 1000000 := hsz
  have stp : ansOf (Sx05.step l .unlike).2 = Sx05.num (Sx05.unlike l).length :: (Sx05.unlike l).flatMap Sx05.listOut := rfl
  have k : ∀ (H' : Hp) (p : Addr), Same (Off H dk) (Off H' dk) → DeskAt P w A S H' dk l → H p = none → H' p = some (.lst (iis (ansOf (Sx05.step l .unlike).2))) → Q (.ref p) H' := k
  rw [stp] at hsz k
  rw [List.length_cons] at hsz
  have pk := tal_known e5
  have lk := Paired.length pk
  have ekp : (kvs.map fun y => V.ref y.2.1) = (kvs.map fun y => y.2.1).map V.ref := by rw [List.map_map]; rfl
  rw [ekp] at e4
  have pk2 : Paired (PcAt H) (kvs.map fun y => y.2.1) (Sx05.known l) := paired_mapL pk
  refine ⟨_, rfl, dk, A.Desk, ddx, _, _, rfl, hdk, B.cl, B.n1, lk1, tx, dx, kp, X.bf, _, _, l, rfl, e1, lk3 (by decide +kernel) (by decide +kernel), lkn (by decide +kernel) (lk3 (by decide +kernel) (by decide +kernel)), e4, pk2, e7.1, by omega, fun H1 u qs s1 nu hu pq => ?_⟩
  have lq := Paired.length pq
  refine ⟨_, rfl, u, _, rfl, .inl (.of hu), by show 1 ≤ sizeLine; decide, fun n nn => ?_⟩
  have s2 : Same H1 (upd H1 n (.lst [.int ((qs.map V.ref).length : Int)])) := Same.new nn
  have hn : upd H1 n (.lst [.int ((qs.map V.ref).length : Int)]) n = some (.lst [.int ((qs.map V.ref).length : Int)]) := upd_same
  generalize upd H1 n (.lst [.int ((qs.map V.ref).length : Int)]) = H2 at *
  refine ⟨_, rfl, u, rfl, ⟨_, .of (s2 _ _ hu)⟩, fun D nD => ?_⟩
  have sD : Same H2 (upd H2 D (.lst [])) := Same.new nD
  refine lc_it (walk_list (K := K) (a := u) (xs := qs.map V.ref)) (fun i H' => ∃ bs : List Addr, Same H2 H' ∧ H' D = some (.lst (bs.map V.ref)) ∧ Paired (fun b r => Off H' D b = some (.lst r)) bs (((Sx05.unlike l).take i).map fun b => cRow (nis b))) ?_ ?_ ?_ ?_
  · exact ⟨[], sD, upd_same, by rw [List.take_zero]; exact .nil⟩
  · rintro i H' hi ⟨bs, s3, _⟩
    exact .of (s3 _ _ (s2 _ _ hu))
  · rintro i v H3 H4 hi ⟨bs, s3, hD, pb⟩ ⟨rfl, hv⟩
    rw [List.getElem?_map] at hv
    obtain ⟨q, hq1, rfl⟩ := Option.map_eq_some_iff.mp hv
    obtain ⟨b, hb1, hb2⟩ := paired_get pq hq1
    have hbl := flat_one hb1
    have lb := Paired.length pb
    rw [List.length_map, List.length_take] at lb
    refine ⟨rfl, yes_of ?_⟩
    refine ⟨_, rfl, q, _, rfl, .inr (.of (s3 _ _ (s2 _ _ hb2))), fun m nm => ?_⟩
    have s5 : Same H4 (upd H4 m (.lst (nis b))) := Same.new nm
    have hm : upd H4 m (.lst (nis b)) m = some (.lst (nis b)) := upd_same
    generalize upd H4 m (.lst (nis b)) = H5 at *
    refine ⟨m, _, rfl, hm, by rw [nis_length]; omega, fun H6 r s6 nr hr2 => ?_⟩
    have s46 := s5.trans s6
    have hrD : r ≠ D := fun z => by rw [z, s5 _ _ hD] at nr; cases nr
    have hil : i < (Sx05.unlike l).length := (List.getElem?_eq_some_iff.mp hb1).1
    have hul : (Sx05.unlike l).length ≤ ((Sx05.unlike l).flatMap Sx05.listOut).length := by
      generalize Sx05.unlike l = U
      induction U with
      | nil => exact Nat.le_refl _
      | cons x U ih =>
        rw [List.flatMap_cons, List.length_append, listOut_eq, List.length_cons, List.length_cons]
        omega
    refine ⟨_, s46 _ _ hD, ?_, bs ++ [r], Same.put (s3.trans s46) nD, ?_, ?_⟩
    · rw [List.length_map, sizeLine_eq]
      omega
    · rw [upd_same, List.map_append]
      rfl
    · rw [Off.upd, List.take_add_one, hb1, List.map_append]
      refine paired_snoc (Paired.mapP pb fun _ _ z => Off.mono s46 _ _ z) ?_
      rw [Off.ne hrD]
      exact hr2
  rintro H3 ⟨bs, s3, hD, pb⟩
  rw [List.length_map, lq, List.take_length] at pb
  have efl : ((Sx05.unlike l).map fun b => cRow (nis b)).flatten = iis ((Sx05.unlike l).flatMap Sx05.listOut) := by
    unfold iis
    rw [List.map_flatMap, ← List.flatMap_def]
    refine flat_ext fun b _ => ?_
    rw [listOut_eq, List.map_cons, List.map_map]
    unfold cRow
    rw [nis_length]
    rfl
  have hfl : (iis ((Sx05.unlike l).flatMap Sx05.listOut)).length ≤ 1000000 := by
    unfold iis
    rw [List.length_map]
    omega
  refine ⟨D, bs, _, rfl, hD, Paired.mapP pb fun _ _ z => Off.same _ _ z, by rw [efl]; omega, fun H4 j s4 nj hj => ?_⟩
  rw [efl] at hj
  have s24 := s3.trans s4
  refine ⟨n, j, _, _, rfl, rfl, s24 _ _ hn, hj, ?_, fun r nr => ?_⟩
  · rw [List.length_cons, List.length_nil, sizeLine_eq]
    omega
  have s04 := s1.trans (s2.trans s24)
  have s05 := s04.trans (Same.new (o := .lst ([.int ((qs.map V.ref).length : Int)] ++ iis ((Sx05.unlike l).flatMap Sx05.listOut))) nr)
  refine k _ r (Off.mono s05) (hDk.same s05) (s04.free nr) ?_
  rw [upd_same, List.length_map, lq]
  rfl
end
end G

end

section
set_option Elab.async false
set_option linter.all false
set_option maxRecDepth 100000
set_option maxHeartbeats 4000000
namespace G
open PySem PySem.Spec PyProof.Rows L2 GR
/-! ### taking apart -/
/-- a text, as far as it is looked at -/
def TxPt (A : Adr) (H : Hp) (tx : Addr) (l : List Sx05.Item) : Prop := ∃ (dxt fs ot : Addr) (flds : List (Str × V)), H tx = some (.ins A.Text dxt flds) ∧ List.lookup ("firsts" : Str) flds = some (V.ref fs) ∧ List.lookup ("others" : Str) flds = some (V.ref ot) ∧ NumD H fs (gForm ((kNum l).filter isF)) ∧ NumD H ot (gForm ((kNum l).filter fun x => !isF x))
theorem TxPt.same {A : Adr} {H H' : Hp} (s : Same H H') {tx : Addr} {l : List Sx05.Item} (h : TxPt A H tx l) : TxPt A H' tx l := by
  obtain ⟨dxt, fs, ot, flds, h1, h2, h3, h4, h5⟩ := h
  exact ⟨dxt, fs, ot, flds, s _ _ h1, h2, h3, h4.same s, h5.same s⟩
def PtAt (A : Adr) (H : Hp) (pt : Addr) (l : List Sx05.Item) (b : Bytes) (ws : List Nat) : Prop := ∃ dxp tx wd wa, H pt = some (.ins A.Parting dxp [("text", .ref tx), ("word", .ref wd), ("ways", .ref wa)]) ∧ TxPt A H tx l ∧ H wd = some (.lst (nis b)) ∧ H wa = some (.lst (nis ws))
theorem PtAt.same {A : Adr} {H H' : Hp} (s : Same H H') {pt : Addr} {l : List Sx05.Item} {b : Bytes} {ws : List Nat} (h : PtAt A H pt l b ws) : PtAt A H' pt l b ws := by
  obtain ⟨dxp, tx, wd, wa, h1, h2, h3, h4⟩ := h
  exact ⟨dxp, tx, wd, wa, s _ _ h1, h2.same s, s _ _ h3, s _ _ h4⟩
/-- the facts of the class -/
structure PtT (K : PySem.W.Frag) (A : Adr) : Prop where
  cl : Cls K A.Parting
  n1 : NoAttr K A.Parting "text"
  n2 : NoAttr K A.Parting "word"
  n3 : NoAttr K A.Parting "ways"
  tcl : Cls K A.Text
  t6 : NoAttr K A.Text "firsts"
  t7 : NoAttr K A.Text "others"
theorem nb_firsts (l : List Sx05.Item) (b : Bytes) (e : Nat) : (gat (gForm ((kNum l).filter isF)) (slc b 0 e)).getD [] = nb (Sx05.known l) b 0 e := by
  unfold gForm nb
  rw [gat_getD, List.filter_filter]
  congr 1
  refine List.filter_congr fun x _ => ?_
  unfold cnd isF
  rw [Bool.and_comm]
  simp
theorem nb_others (l : List Sx05.Item) (b : Bytes) (i e : Nat) (hi : i ≠ 0) : (gat (gForm ((kNum l).filter fun x => !isF x)) (slc b i e)).getD [] = nb (Sx05.known l) b i e := by
  unfold gForm nb
  rw [gat_getD, List.filter_filter]
  congr 1
  refine List.filter_congr fun x _ => ?_
  unfold cnd isF
  rw [Bool.and_comm]
  simp [hi]
theorem nb_le (k : List Pie) (b : Bytes) (i e : Nat) : (nb k b i e).length ≤ k.length := by
  unfold nb
  rw [List.length_map, ← num_len k]
  exact List.length_filter_le _ _
def spBtw (A : Adr) : Sp := fun vs H Q _ => ∃ (pt : Addr) (l : List Sx05.Item) (b : Bytes) (ws : List Nat) (i e : Nat), vs = [.ref pt, ni i, ni e] ∧ PtAt A H pt l b ws ∧ i ≤ e ∧ e ≤ b.length ∧
  ∀ H' p, Same H H' → H' p = some (.lst (nis (nb (Sx05.known l) b i e))) → Q (.ref p) H'
def wsum (k : List Pie) (b : Bytes) (ws : List Nat) (i t : Nat) : Nat := ((List.range t).map fun j => (nb k b i (i + 1 + j)).length * ws.getD (i + 1 + j) 0).sum
theorem wsum_succ (k : List Pie) (b : Bytes) (ws : List Nat) (i t : Nat) : wsum k b ws i (t + 1) = wsum k b ws i t + (nb k b i (i + 1 + t)).length * ws.getD (i + 1 + t) 0 := by
  unfold wsum
  rw [List.range_succ, List.map_append, List.sum_append]
  simp
def spWays (A : Adr) : Sp := fun vs H Q _ => ∃ (pt : Addr) (l : List Sx05.Item) (b : Bytes) (ws : List Nat) (i : Nat), vs = [.ref pt, ni i] ∧ PtAt A H pt l b ws ∧ i < b.length ∧ ws.length = b.length + 1 ∧ b.length ≤ 100 ∧ (Sx05.known l).length ≤ 14400 ∧
  ∀ H', Same H H' → Q (ni (wsum (Sx05.known l) b ws i (b.length - i))) H'
section
variable {P : Program} {w : World} {K : PySem.W.Frag} {mg : Str → Option Value} {base : Heap} {A : Adr} {f1 f2 f3 : Addr}
theorem sc_pieces_between : FnScope ["parting", "at", "end", "pieces"] ["parting", "at", "end"] (defScope s_pieces_between) := ⟨rfl, rfl, rfl, by decide +kernel, rfl, by decide +kernel, by decide +kernel⟩
theorem ok_pieces_between {f : Addr} {fd : FuncData} (F : Fun K "pieces_between" "pieces_between" s_pieces_between f fd) (T : PtT K A) (mT : mg "tuple" = none) : FnOk P w K mg base CX0 1 f fd ["parting", "at", "end"] (spBtw A) := by
  refine F.ok sc_pieces_between (fun vs H Q E h => ?_) (fun cdv Ar outer s H vs Q E hr h => ?_)
  · obtain ⟨pt, l, b, ws, i, e, rfl, _⟩ := h
    rfl
  refine ⟨_, pss_cons (ps_set (i := 3) sc_pieces_between.nd rfl (.inl rfl) (pe_ifExp (pt_cmpR op_eq (pv 1) pe_int (nomark _)) (pe_fld (pe_fld (pv 0) rfl) rfl) (pe_fld (pe_fld (pv 0) rfl) rfl)))
    (pss_one (ps_ret (pe_dget2 (hu_of hr) (pv 3) (pe_callTy call_tuple_of (by rfl) mT (by decide +kernel) (by exact (pa_cons (pe_slice sl_list (pe_fld (pv 0) rfl) (po_some (pv 1)) (po_some (pv 2))) pa_nil))) (pe_lst pa_nil) ⟨rfl, rfl, rfl, rfl⟩))), ?_⟩
  obtain ⟨pt, l, b, ws, i, e, rfl, ⟨dxp, tx, wd, wa, h1, ⟨dxt, fs, ot, flds, g1, g2, g3, g4, g5⟩, h3, h4⟩, hie, heb, k⟩ := h
  refine ⟨_, rfl, rfl, _, rfl, ?_⟩
  -- the dict
  obtain ⟨d, G, hd, hG, br⟩ : ∃ d G, NumD H d G ∧ (gat G (slc b i e)).getD [] = nb (Sx05.known l) b i e ∧ ∀ R : VK, R (.ref d) H →
      (if decide (ni i = V.int 0) = true then (tFld K (tFld K (tVar 0) "text") "firsts") (L2.start ["parting", "at", "end", "pieces"] [.ref pt, ni i, ni e]) H R else (tFld K (tFld K (tVar 0) "text") "others") (L2.start ["parting", "at", "end", "pieces"] [.ref pt, ni i, ni e]) H R) := by
    by_cases hi : i = 0
    · subst hi
      refine ⟨fs, _, g4, nb_firsts l b e, fun R hR => if_true_of (decide_eq_true rfl) ?_⟩
      exact ⟨_, rfl, pt, A.Parting, dxp, _, _, rfl, h1, T.cl, T.n1, lk1, tx, A.Text, dxt, _, _, rfl, g1, T.tcl, T.t6, g2, hR⟩
    · refine ⟨ot, _, g5, nb_others l b i e hi, fun R hR => if_false_of (decide_eq_false fun z => hi (by have := V.int.inj z; omega)) ?_⟩
      exact ⟨_, rfl, pt, A.Parting, dxp, _, _, rfl, h1, T.cl, T.n1, lk1, tx, A.Text, dxt, _, _, rfl, g1, T.tcl, T.t7, g3, hR⟩
  refine br _ ?_
  refine ⟨_, rfl, d, rfl, hd.isD, _, rfl, pt, A.Parting, dxp, _, _, rfl, h1, T.cl, T.n2, lk2 (by decide +kernel), _, rfl, _, rfl, _, rfl, _, rfl, wd, _, rfl, .of h3, fun q nq => ?_⟩
  rw [cutV_nis _ _ _ hie heb]
  have s1 : Same H (upd H q (.lst (nis (slc b i e)))) := Same.new nq
  have hq : upd H q (.lst (nis (slc b i e))) q = some (.lst (nis (slc b i e))) := upd_same
  show tNil _ (upd H q (.lst (nis (slc b i e)))) _
  generalize upd H q (.lst (nis (slc b i e))) = H1 at *
  refine ⟨q, _, rfl, .inl ⟨.of hq, fun t nt => ?_⟩⟩
  have s2 : Same H1 (upd H1 t (.tup (nis (slc b i e)))) := Same.new nt
  have ht : upd H1 t (.tup (nis (slc b i e))) t = some (.tup (nis (slc b i e))) := upd_same
  generalize upd H1 t (.tup (nis (slc b i e))) = H2 at *
  refine ⟨Nat.zero_le _, fun z nz => ?_⟩
  have s3 : Same H2 (upd H2 z (.lst [])) := Same.new nz
  have hz : upd H2 z (.lst []) z = some (.lst []) := upd_same
  generalize upd H2 z (.lst []) = H3 at *
  have s03 := s1.trans (s2.trans s3)
  obtain ⟨o, ho1, ho2⟩ := (hd.same s03).get (s3 _ _ ht)
  refine ⟨o, ho1, ?_⟩
  rcases ho2 with ⟨e1, e2⟩ | ⟨a, m, e1, e2, e3⟩
  · rw [e1] at hG
    rw [e2]
    refine k _ z s03 ?_
    rw [← hG]
    exact hz
  · rw [e1] at hG
    rw [e2]
    refine k _ a s03 ?_
    rw [← hG]
    exact e3
theorem sc_ways_from : FnScope ["parting", "at", "total", "end"] ["parting", "at"] (defScope s_ways_from) := ⟨rfl, rfl, rfl, by decide +kernel, rfl, by decide +kernel, by decide +kernel⟩
theorem ok_ways_from {f : Addr} {fd : FuncData} (F : Fun K "ways_from" "ways_from" s_ways_from f fd) (T : PtT K A) (D1 : Def P w K mg base CX0 1 "pieces_between" f1 ["parting", "at", "end"] (spBtw A)) (mLen : mg "len" = none) (mR : mg "range" = none) : FnOk P w K mg base CX0 2 f fd ["parting", "at"] (spWays A) := by
  refine F.ok sc_ways_from (fun vs H Q E h => ?_) (fun cdv Ar outer s H vs Q E hr h => ?_)
  · obtain ⟨pt, l, b, ws, i, rfl, _⟩ := h
    rfl
  refine ⟨_, pss_cons (ps_set (i := 2) sc_ways_from.nd rfl (.inl rfl) pe_int)
    (pss_cons (ps_for PassesOwn.never rfl (pi_range2 (by rfl) mR (by exact (pa_cons (pe_op op_add (pv 1) pe_int) (pa_cons (pe_op op_add (pe_callB call_len_seq (by rfl) mLen PySem.boot_len (by exact (pa_cons (pe_fld (pv 0) rfl) pa_nil))) pe_int) pa_nil)))) (pg_name (i := 3) sc_ways_from.nd rfl (.inl rfl))
      (pss_one (ps_aug (i := 2) sc_ways_from.nd rfl (.inl rfl) (pe_op op_mul (pe_callB call_len_seq (by rfl) mLen PySem.boot_len (by exact (pa_cons (pe_def D1 hr pass0 (pa_cons (pv 0) (pa_cons (pv 1) (pa_cons (pv 3) pa_nil)))) pa_nil))) (pe_ix ix_list (pe_fld (pv 0) rfl) (pv 3) (fun _ _ => rfl))) in_add)))
    (pss_one (ps_ret (pv 2)))), ?_⟩
  obtain ⟨pt, l, b, ws, i, rfl, hP, hi, hws, hb, hkn, k⟩ := h
  obtain ⟨dxp, tx, wd, wa, h1, h2, h3, h4⟩ := id hP
  refine ⟨_, rfl, _, _, rfl, rfl, _, rfl, pt, A.Parting, dxp, _, _, rfl, h1, T.cl, T.n2, lk2 (by decide +kernel), wd, _, rfl, .inl (.of h3), _, _, rfl, rfl, _, _, rfl, ?_, ?_⟩
  · rw [nis_length]
    refine ⟨?_, ?_, ?_, ?_⟩ <;> omega
  rw [nis_length]
  have en : ((b.length : Int) + 1 - ((i : Int) + 1)).toNat = b.length - i := by omega
  rw [en]
  refine for_it (walk_range (lo := (i : Int) + 1) (n := b.length - i)) (fun t σ H' => ∃ (v3 : Option V) (tot : Nat), σ = [some (.ref pt), some (ni i), some (ni tot), v3] ∧ tot = wsum (Sx05.known l) b ws i t ∧ Same H H') ?_ ?_ ?_ ?_
  · exact ⟨none, 0, rfl, rfl, fun _ _ e => e⟩
  · exact fun _ _ _ _ _ => trivial
  · rintro t v σ H1 H2 ht ⟨v3, tot, rfl, htot, s1⟩ ⟨rfl, hv⟩
    have hv : v = ni (i + 1 + t) := hv
    subst hv
    refine ⟨_, rfl, _, rfl, _, rfl, _, rfl, pt, l, b, ws, i, i + 1 + t, rfl, hP.same s1, by omega, by omega, fun H3 p s3 hp => ?_⟩
    have s03 := s1.trans s3
    have hat : (nis ws)[i + 1 + t]? = some (ni (ws.getD (i + 1 + t) 0)) := by
      unfold nis
      rw [List.getElem?_map, List.getD_eq_getElem?_getD, List.getElem?_eq_getElem (by omega)]
      rfl
    have hle := nb_le (Sx05.known l) b i (i + 1 + t)
    refine ⟨p, _, rfl, .inl (.of hp), _, rfl, pt, A.Parting, dxp, _, _, rfl, s03 _ _ h1, T.cl, T.n3, lk3 (by decide +kernel) (by decide +kernel), _, rfl, wa, _, _, _, rfl, rfl, .of (s03 _ _ h4), atI_nat hat, _, _, rfl, rfl, .inl ?_, _, _, rfl, rfl, ?_⟩
    · rw [nis_length]
      constructor <;> omega
    · refine ⟨some (ni (i + 1 + t)), tot + (nb (Sx05.known l) b i (i + 1 + t)).length * ws.getD (i + 1 + t) 0, ?_, ?_, s03⟩
      · rw [nis_length]
        rfl
      · rw [wsum_succ, ← htot]
  · rintro σ H1 ⟨v3, tot, rfl, htot, s1⟩
    refine ⟨_, rfl, ?_⟩
    rw [htot]
    exact k _ s1
end
end G

end

section
set_option Elab.async false
set_option linter.all false
set_option maxRecDepth 100000
set_option maxHeartbeats 4000000
namespace G
open PySem PySem.Spec PyProof.Rows L2 GR
/-- the table of ways -/
def fW (k : List Pie) (b : Bytes) (i : Nat) : Nat := if i = b.length then 1 else wy k b i
def wsAt (k : List Pie) (b : Bytes) (t : Nat) : List Nat := (List.range (b.length + 1)).map fun j => if b.length - t ≤ j then fW k b j else 0
def wsF (k : List Pie) (b : Bytes) : List Nat := (List.range (b.length + 1)).map (fW k b)
theorem wsAt_len (k : List Pie) (b : Bytes) (t : Nat) : (wsAt k b t).length = b.length + 1 := by
  unfold wsAt
  rw [List.length_map, List.length_range]
theorem wsAt_get {k : List Pie} {b : Bytes} {t j : Nat} (hj : j < b.length + 1) : (wsAt k b t)[j]? = some (if b.length - t ≤ j then fW k b j else 0) := by
  unfold wsAt
  rw [List.getElem?_map, List.getElem?_range hj]
  rfl
theorem wsAt_all (k : List Pie) (b : Bytes) : wsAt k b b.length = wsF k b := by
  unfold wsAt wsF
  refine List.map_congr_left fun j _ => ?_
  rw [if_pos (by omega)]
theorem wsF_get {k : List Pie} {b : Bytes} {j : Nat} (hj : j < b.length + 1) : (wsF k b)[j]? = some (fW k b j) := by
  unfold wsF
  rw [List.getElem?_map, List.getElem?_range hj]
  rfl
theorem wsAt_zero (k : List Pie) (b : Bytes) : wsAt k b 0 = List.replicate b.length 0 ++ [1] := by
  refine List.ext_getElem? fun j => ?_
  by_cases hj : j < b.length + 1
  · rw [wsAt_get hj]
    by_cases h : j < b.length
    · rw [if_neg (by omega), List.getElem?_append_left (by rw [List.length_replicate]; exact h), List.getElem?_replicate, if_pos h]
    · have : j = b.length := by omega
      subst this
      rw [if_pos (by omega), List.getElem?_append_right (by rw [List.length_replicate]; exact Nat.le_refl _), List.length_replicate, Nat.sub_self]
      unfold fW
      rw [if_pos rfl]
      rfl
  · rw [List.getElem?_eq_none (by rw [wsAt_len]; omega), List.getElem?_eq_none (by rw [List.length_append, List.length_replicate]; simp; omega)]
theorem fW_pos {k : List Pie} {b : Bytes} {e : Nat} (h : 0 < e) : fW k b e = wy k b e := by
  unfold fW
  split
  · rename_i he
    subst he
    rw [wy_end h]
  · rfl
theorem wsum_is {k : List Pie} (hk : ∀ p ∈ k, p.form ≠ []) {b : Bytes} {t : Nat} (ht : t < b.length) : wsum k b (wsAt k b t) (b.length - 1 - t) (b.length - (b.length - 1 - t)) = fW k b (b.length - 1 - t) := by
  have e : fW k b (b.length - 1 - t) = wy k b (b.length - 1 - t) := by
    unfold fW
    rw [if_neg (by omega)]
  rw [e, wy_sum hk (by omega)]
  unfold wsum
  congr 1
  refine List.map_congr_left fun j hj => ?_
  have hj := List.mem_range.mp hj
  rw [List.getD_eq_getElem?_getD, wsAt_get (by omega), if_pos (by omega), Option.getD_some, fW_pos (by omega)]
theorem wsAt_set {k : List Pie} {b : Bytes} {t : Nat} (ht : t < b.length) : (wsAt k b t).set (b.length - 1 - t) (fW k b (b.length - 1 - t)) = wsAt k b (t + 1) := by
  refine List.ext_getElem? fun j => ?_
  by_cases hj : j < b.length + 1
  · rw [List.getElem?_set, wsAt_get hj, wsAt_get hj, wsAt_len]
    by_cases h : b.length - 1 - t = j
    · rw [if_pos h, if_pos (by omega), if_pos (by omega), h]
    · rw [if_neg h]
      by_cases h2 : b.length - t ≤ j
      · rw [if_pos h2, if_pos (by omega)]
      · rw [if_neg h2, if_neg (by omega)]
  · rw [List.getElem?_eq_none (by rw [List.length_set, wsAt_len]; omega), List.getElem?_eq_none (by rw [wsAt_len]; omega)]
theorem nis_set (l : List Nat) (i n : Nat) : (nis l).set i (ni n) = nis (l.set i n) := by
  unfold nis
  rw [List.map_set]
def spPartI (A : Adr) : Sp := fun vs H Q _ => ∃ (x dx tx wd : Addr) (l : List Sx05.Item) (b : Bytes), vs = [.ref x, .ref tx, .ref wd] ∧ H x = some (.ins A.Parting dx []) ∧ TxPt A (Off H x) tx l ∧ Off H x wd = some (.lst (nis b)) ∧ b.length ≤ 100 ∧ (Sx05.known l).length ≤ 14400 ∧ (∀ p ∈ Sx05.known l, p.form ≠ []) ∧
  ∀ H', Same (Off H x) (Off H' x) → PtAt A H' x l b (wsF (Sx05.known l) b) → Q .non H'
def spAmount (A : Adr) : Sp := fun vs H Q _ => ∃ (pt : Addr) (l : List Sx05.Item) (b : Bytes), vs = [.ref pt] ∧ PtAt A H pt l b (wsF (Sx05.known l) b) ∧ Q (ni (Sx05.ways (Sx05.known l) b)) H
section
variable {P : Program} {w : World} {K : PySem.W.Frag} {mg : Str → Option Value} {base : Heap} {A : Adr} {f1 f2 f3 : Addr}
theorem sc_Parting : FnScope ["self", "text", "word", "at"] ["self", "text", "word"] (defScope s_Parting) := ⟨rfl, rfl, rfl, by decide +kernel, rfl, by decide +kernel, by decide +kernel⟩
theorem ok_Parting {f : Addr} {fd : FuncData} (F : Fun K "__init__" "Parting.__init__" s_Parting f fd) (T : PtT K A) (D1 : Def P w K mg base CX0 2 "ways_from" f1 ["parting", "at"] (spWays A)) (mLen : mg "len" = none) (mR : mg "range" = none) : FnOk P w K mg base CX0 3 f fd ["self", "text", "word"] (spPartI A) := by
  refine F.ok sc_Parting (fun vs H Q E h => ?_) (fun cdv Ar outer s H vs Q E hr h => ?_)
  · obtain ⟨x, dx, tx, wd, l, b, rfl, _⟩ := h
    rfl
  refine ⟨_, pss_cons (ps_fld (pv 0) (pv 1) rfl) (pss_cons (ps_fld (pv 0) (pv 2) rfl)
    (pss_cons (ps_fld (pv 0) (pe_op op_cat (pe_op op_rep (pe_lst (by exact (pa_cons pe_int pa_nil))) (pe_callB call_len_seq (by rfl) mLen PySem.boot_len (by exact (pa_cons (pv 2) pa_nil)))) (pe_lst (by exact (pa_cons pe_int pa_nil)))) rfl)
    (pss_one (ps_for PassesOwn.never rfl (pi_range3 (by rfl) mR (by exact (pa_cons (pe_op op_sub (pe_callB call_len_seq (by rfl) mLen PySem.boot_len (by exact (pa_cons (pv 2) pa_nil))) pe_int) (pa_cons (pe_un un_neg pe_int) (pa_cons (pe_un un_neg pe_int) pa_nil))))) (pg_name (i := 3) sc_Parting.nd rfl (.inl rfl))
      (pss_one (ps_asg (pe_def D1 hr pass0 (pa_cons (pv 0) (pa_cons (pv 3) pa_nil))) (pg_sub (pe_fld (pv 0) rfl) (pv 3) set_list))))))), ?_⟩
  obtain ⟨x, dx, tx, wd, l, b, rfl, hx, hT, hwd, hb, hkn, hk, k⟩ := h
  have nHx : H x ≠ none := by rw [hx]; exact fun z => by cases z
  have g0 : Gw H x H := ⟨fun _ _ e => e, nHx⟩
  refine ⟨_, rfl, _, rfl, x, A.Parting, dx, _, rfl, hx, T.cl, T.n1, (by show 0 < 1000; decide), ?_⟩
  rw [putF1]
  refine ⟨_, rfl, _, rfl, x, A.Parting, dx, _, rfl, upd_same, T.cl, T.n2, (by show 1 < 1000; decide), ?_⟩
  rw [putFn _ _ (by decide +kernel), putF1, upd_upd]
  have g1 : Gw H x (upd H x (.ins A.Parting dx [("text", .ref tx), ("word", .ref wd)])) := g0.upd
  have hx1 : upd H x (.ins A.Parting dx [("text", .ref tx), ("word", .ref wd)]) x = some (.ins A.Parting dx [("text", .ref tx), ("word", .ref wd)]) := upd_same
  generalize upd H x (.ins A.Parting dx [("text", .ref tx), ("word", .ref wd)]) = H1 at *
  refine ⟨by show 1 ≤ sizeLine; decide, fun a na => ?_⟩
  have s2 : Same H1 (upd H1 a (.lst [.int 0])) := Same.new na
  have ha : upd H1 a (.lst [.int 0]) a = some (.lst [.int 0]) := upd_same
  generalize upd H1 a (.lst [.int 0]) = H2 at *
  have g2 := g1.same s2
  have wd2 : H2 wd = some (.lst (nis b)) := Off.same _ _ (g2.sm _ _ hwd)
  refine ⟨_, rfl, wd, _, rfl, .inl (.of wd2), a, _, _, rfl, rfl, ha, ?_, ?_, ?_, fun c nc => ?_⟩
  · rw [nis_length]
    omega
  · rw [nis_length]
    omega
  · rw [nis_length, sizeLine_eq]
    show 1 * ((b.length : Int)).toNat ≤ _
    omega
  have er : (List.replicate ((((nis b).length : Nat) : Int)).toNat [V.int 0]).flatten = nis (List.replicate b.length 0) := by
    rw [nis_length]
    show (List.replicate b.length [V.int 0]).flatten = _
    generalize b.length = n
    induction n with
    | zero => rfl
    | succ n ih =>
      rw [List.replicate_succ, List.replicate_succ, List.flatten_cons, ih]
      rfl
  rw [er]
  have s3 : Same H2 (upd H2 c (.lst (nis (List.replicate b.length 0)))) := Same.new nc
  have hc : upd H2 c (.lst (nis (List.replicate b.length 0))) c = some (.lst (nis (List.replicate b.length 0))) := upd_same
  generalize upd H2 c (.lst (nis (List.replicate b.length 0))) = H3 at *
  refine ⟨by show 1 ≤ sizeLine; decide, fun d nd => ?_⟩
  have s4 : Same H3 (upd H3 d (.lst [.int 1])) := Same.new nd
  have hd : upd H3 d (.lst [.int 1]) d = some (.lst [.int 1]) := upd_same
  generalize upd H3 d (.lst [.int 1]) = H4 at *
  refine ⟨c, d, _, _, rfl, rfl, s4 _ _ hc, hd, ?_, fun wa nwa => ?_⟩
  · rw [nis_length, List.length_replicate, sizeLine_eq]
    show b.length + 1 ≤ _
    omega
  have e0 : nis (List.replicate b.length 0) ++ [V.int 1] = nis (wsAt (Sx05.known l) b 0) := by
    rw [wsAt_zero]
    unfold nis
    rw [List.map_append]
    rfl
  rw [e0]
  have s5 : Same H4 (upd H4 wa (.lst (nis (wsAt (Sx05.known l) b 0)))) := Same.new nwa
  have hwa : upd H4 wa (.lst (nis (wsAt (Sx05.known l) b 0))) wa = some (.lst (nis (wsAt (Sx05.known l) b 0))) := upd_same
  have s14 := s2.trans (s3.trans s4)
  have fwa : H wa = none := (g1.same s14).free nwa
  have hwax : wa ≠ x := fun z => nHx (z ▸ fwa)
  generalize upd H4 wa (.lst (nis (wsAt (Sx05.known l) b 0))) = H5 at *
  have s15 := s14.trans s5
  have g5 := g1.same s15
  refine ⟨_, rfl, x, A.Parting, dx, _, rfl, s15 _ _ hx1, T.cl, T.n3, (by show 2 < 1000; decide), ?_⟩
  rw [putFn _ _ (by decide +kernel), putFn _ _ (by decide +kernel), putF1]
  have g6 : Gw H x (upd H5 x (.ins A.Parting dx [("text", .ref tx), ("word", .ref wd), ("ways", .ref wa)])) := g5.upd
  have hx6 : upd H5 x (.ins A.Parting dx [("text", .ref tx), ("word", .ref wd), ("ways", .ref wa)]) x = some (.ins A.Parting dx [("text", .ref tx), ("word", .ref wd), ("ways", .ref wa)]) := upd_same
  have hwa6 : upd H5 x (.ins A.Parting dx [("text", .ref tx), ("word", .ref wd), ("ways", .ref wa)]) wa = some (.lst (nis (wsAt (Sx05.known l) b 0))) := by
    rw [upd_ne hwax]
    exact hwa
  generalize upd H5 x (.ins A.Parting dx [("text", .ref tx), ("word", .ref wd), ("ways", .ref wa)]) = H6 at *
  have wd6 : H6 wd = some (.lst (nis b)) := Off.same _ _ (g6.sm _ _ hwd)
  refine ⟨_, rfl, wd, _, rfl, .inl (.of wd6), _, _, rfl, rfl, _, rfl, _, rfl, _, _, _, b.length, rfl, ?_, ?_⟩
  · have z := RgC.neg (i := (b.length : Int) - 1) (j := -1) (by omega) (by omega) (by omega) (by omega)
    have e : ((b.length : Int) - 1 - -1).toNat = b.length := by omega
    rw [e] at z
    rw [nis_length]
    exact z
  have ptAt : ∀ {H' : Hp} {ws : List Nat}, Gw H x H' → H' x = some (.ins A.Parting dx [("text", .ref tx), ("word", .ref wd), ("ways", .ref wa)]) → H' wa = some (.lst (nis ws)) → PtAt A H' x l b ws := fun g h1 h2 =>
    ⟨dx, tx, wd, wa, h1, hT.same (g.sm.trans Off.same), Off.same _ _ (g.sm _ _ hwd), h2⟩
  refine for_it (walk_rangeC (lo := ((nis b).length : Int) - 1) (c := -1) (n := b.length)) (fun t σ H' => ∃ v3 : Option V, σ = [some (.ref x), some (.ref tx), some (.ref wd), v3] ∧ Gw H x H' ∧ H' x = some (.ins A.Parting dx [("text", .ref tx), ("word", .ref wd), ("ways", .ref wa)]) ∧ H' wa = some (.lst (nis (wsAt (Sx05.known l) b t)))) ?_ ?_ ?_ ?_
  · exact ⟨none, rfl, g6, hx6, hwa6⟩
  · exact fun _ _ _ _ _ => trivial
  · rintro t v σ Ha Hb ht ⟨v3, rfl, g, h1, h2⟩ ⟨rfl, hv⟩
    have hv : v = ni (b.length - 1 - t) := by
      rw [hv, nis_length]
      show V.int ((b.length : Int) - 1 + (t : Nat) * -1) = V.int _
      congr 1
      omega
    subst hv
    refine ⟨_, rfl, _, rfl, x, l, b, wsAt (Sx05.known l) b t, b.length - 1 - t, rfl, ptAt g h1 h2, by omega, wsAt_len _ _ _, hb, hkn, fun Hc sc => ?_⟩
    rw [wsum_is hk ht]
    have hix : ixN (nis (wsAt (Sx05.known l) b t)).length ((b.length - 1 - t : Nat) : Int) = some (b.length - 1 - t) := by
      unfold ixN
      rw [if_pos (by omega), nis_length, wsAt_len, if_pos (by omega)]
      rfl
    refine ⟨_, rfl, x, A.Parting, dx, _, _, rfl, sc _ _ h1, T.cl, T.n3, lk3 (by decide +kernel) (by decide +kernel), _, rfl, wa, _, _, _, rfl, rfl, sc _ _ h2, hix, ?_⟩
    rw [nis_set, wsAt_set ht]
    refine ⟨_, rfl, ⟨?_, ?_⟩, ?_, upd_same⟩
    · intro b' o e
      have e2 := (g.same sc).sm b' o e
      have hb' : b' ≠ x := fun z => by rw [z, Off.at] at e; cases e
      rw [Off.ne hb'] at e e2 ⊢
      rw [upd_ne (ne_of_none e fwa)]
      exact e2
    · rw [upd_ne (Ne.symm hwax), sc _ _ h1]
      exact fun z => by cases z
    · rw [upd_ne (Ne.symm hwax)]
      exact sc _ _ h1
  · rintro σ Ha ⟨v3, rfl, g, h1, h2⟩
    rw [wsAt_all] at h2
    exact k _ g.sm (ptAt g h1 h2)
theorem sc_amount_of_rows : FnScope ["parting"] ["parting"] (defScope s_amount_of_rows) := ⟨rfl, rfl, rfl, by decide +kernel, rfl, by decide +kernel, by decide +kernel⟩
theorem ok_amount_of_rows {f : Addr} {fd : FuncData} (F : Fun K "amount_of_rows" "amount_of_rows" s_amount_of_rows f fd) (T : PtT K A) (mLen : mg "len" = none) : FnOk P w K mg base CX0 1 f fd ["parting"] (spAmount A) := by
  refine F.ok sc_amount_of_rows (fun vs H Q E h => ?_) (fun cdv Ar outer s H vs Q E hr h => ?_)
  · obtain ⟨pt, l, b, rfl, _⟩ := h
    rfl
  refine ⟨_, pss_cons (ps_if (pt_cmpR op_eq (pe_callB call_len_seq (by rfl) mLen PySem.boot_len (by exact (pa_cons (pe_fld (pv 0) rfl) pa_nil))) pe_int (nomark _)) (pss_one (ps_ret pe_int)) pss_nil)
    (pss_one (ps_ret (pe_ix ix_list (pe_fld (pv 0) rfl) pe_int (fun _ _ => rfl)))), ?_⟩
  obtain ⟨pt, l, b, rfl, ⟨dxp, tx, wd, wa, h1, h2, h3, h4⟩, q⟩ := h
  refine ⟨_, rfl, pt, A.Parting, dxp, _, _, rfl, h1, T.cl, T.n2, lk2 (by decide +kernel), wd, _, rfl, .inl (.of h3), rfl, _, rfl, ?_⟩
  rw [nis_length]
  by_cases hb : b = []
  · subst hb
    refine if_true_of (decide_eq_true rfl) ?_
    exact q
  · have hl : 0 < b.length := List.length_pos_iff.mpr hb
    refine if_false_of (decide_eq_false fun z => by have := V.int.inj z; omega) ?_
    have hat : (nis (wsF (Sx05.known l) b))[0]? = some (ni (Sx05.ways (Sx05.known l) b)) := by
      unfold nis
      rw [List.getElem?_map, wsF_get (by omega)]
      unfold fW wy
      rw [if_neg (by omega), if_pos rfl]
      rfl
    exact ⟨_, rfl, pt, A.Parting, dxp, _, _, rfl, h1, T.cl, T.n3, lk3 (by decide +kernel) (by decide +kernel), wa, _, _, _, rfl, rfl, .of h4, atI_nat (j := 0) hat, q⟩
end
end G

end

section
set_option Elab.async false
set_option linter.all false
set_option maxRecDepth 100000
set_option maxHeartbeats 4000000
namespace G
open PySem PySem.Spec PyProof.Rows L2 GR
/-! ### what can come next -/
abbrev Pr := Nat × Nat
abbrev TpV (x : Pr) : HO := .tup [ni x.1, ni x.2]
def ChAt (H : Hp) (p : Addr) (L : List Pr) : Prop := ∃ cs : List Addr, H p = some (.lst (cs.map V.ref)) ∧ Paired (fun c x => H c = some (TpV x)) cs L
theorem ChAt.same {H H' : Hp} (s : Same H H') {p : Addr} {L : List Pr} (h : ChAt H p L) : ChAt H' p L := by
  obtain ⟨cs, e, r⟩ := h
  exact ⟨cs, s _ _ e, Paired.mapP r fun _ _ z => s _ _ z⟩
/-- what a pair at an address is -/
def pN (H : Hp) (c : Addr) : Pr := match H c with
  | some (.tup [.int i, .int j]) => (i.toNat, j.toNat)
  | _ => (0, 0)
theorem pN_is {H : Hp} {c : Addr} {x : Pr} (h : H c = some (TpV x)) : pN H c = x := by
  unfold pN
  rw [h]
  rfl
def pK (H : Hp) (v : V) : Int × Int := match v with
  | .ref c => ((pN H c).1, (pN H c).2)
  | _ => (0, 0)
def toA (v : V) : Addr := match v with
  | .ref c => c
  | _ => 0
theorem pN_map {H : Hp} : ∀ {cs : List Addr} {L : List Pr}, Paired (fun c x => H c = some (TpV x)) cs L → cs.map (pN H) = L
  | _, _, .nil => rfl
  | _, _, .cons r t => by rw [List.map_cons, pN_is r, pN_map t]
theorem pN_back {H : Hp} : ∀ {cs : List Addr}, (∀ c ∈ cs, ∃ x, H c = some (TpV x)) → Paired (fun c x => H c = some (TpV x)) cs (cs.map (pN H))
  | [], _ => .nil
  | c :: cs, h => by
    obtain ⟨x, hx⟩ := h c List.mem_cons_self
    refine .cons ?_ (pN_back fun d hd => h d (List.mem_cons_of_mem _ hd))
    rw [pN_is hx]
    exact hx
theorem refs_back' {ys : List V} {cs : List Addr} (h : ys.Perm (cs.map V.ref)) : ys = (ys.map toA).map V.ref ∧ (ys.map toA).Perm cs := by
  constructor
  · rw [List.map_map]
    have : ∀ v ∈ ys, (V.ref ∘ toA) v = v := fun v hv => by
      obtain ⟨c, _, rfl⟩ := List.mem_map.mp (h.mem_iff.mp hv)
      rfl
    conv => lhs; rw [← List.map_id ys]
    exact List.map_congr_left fun v hv => (this v hv).symm
  · have z := h.map toA
    rw [List.map_map] at z
    have e : (toA ∘ V.ref) = id := rfl
    rw [e, List.map_id] at z
    exact z
theorem paired_mem {α β : Type} {F G : α → β → Prop} : ∀ {l : List α} {m : List β}, Paired F l m → (∀ a ∈ l, ∀ b, F a b → G a b) → Paired G l m
  | _, _, .nil, _ => .nil
  | _, _, .cons r t, h => .cons (h _ List.mem_cons_self _ r) (paired_mem t fun a ha b => h a (List.mem_cons_of_mem _ ha) b)
theorem cutV_takeN (xs : List V) (m : Nat) : cutV xs none (some (m : Int)) = xs.take m := by
  unfold cutV
  rw [HT.sIx_none, List.drop_zero, Nat.sub_zero, HT.sIx_nat]
  by_cases h : m ≤ xs.length
  · rw [Nat.min_eq_left h]
  · rw [Nat.min_eq_right (by omega), List.take_of_length_le (Nat.le_refl _), List.take_of_length_le (by omega)]
def PtOk (l : List Sx05.Item) (b : Bytes) : Prop := b.length ≤ 100 ∧ (Sx05.known l).length ≤ 14400 ∧ ∀ p ∈ Sx05.known l, p.form ≠ []
def spChoices (A : Adr) : Sp := fun vs H Q _ => ∃ (pt : Addr) (l : List Sx05.Item) (b : Bytes) (i m : Nat), vs = [.ref pt, ni i, ni m] ∧ PtAt A H pt l b (wsF (Sx05.known l) b) ∧ PtOk l b ∧ i < b.length ∧ m ≤ 20 ∧
  ∀ H' p, Same H H' → H p = none → ChAt (New H H') p ((chs (Sx05.known l) b i).take m) → Q (.ref p) H'
section
variable {P : Program} {w : World} {K : PySem.W.Frag} {mg : Str → Option Value} {base : Heap} {A : Adr} {f1 f2 f3 : Addr}
abbrev nCh : List Str := ["parting", "at", "most", "choices", "end", "number"]
theorem sc_choices_at : FnScope nCh ["parting", "at", "most"] (defScope s_choices_at) := ⟨rfl, rfl, rfl, by decide +kernel, rfl, by decide +kernel, by decide +kernel⟩
theorem ok_choices_at {f : Addr} {fd : FuncData} (F : Fun K "choices_at" "choices_at" s_choices_at f fd) (T : PtT K A) (D1 : Def P w K mg base CX0 1 "pieces_between" f1 ["parting", "at", "end"] (spBtw A)) (mLen : mg "len" = none) (mR : mg "range" = none) (mS : mg "sorted" = none) :
    FnOk P w K mg base CX0 2 f fd ["parting", "at", "most"] (spChoices A) := by
  refine F.ok sc_choices_at (fun vs H Q E h => ?_) (fun cdv Ar outer s H vs Q E hr h => ?_)
  · obtain ⟨pt, l, b, i, m, rfl, _⟩ := h
    rfl
  refine ⟨_, pss_cons (ps_set (i := 3) sc_choices_at.nd rfl (.inl rfl) (pe_lst pa_nil))
    (pss_cons (ps_for PassesOwn.never rfl (pi_range2 (by rfl) mR (by exact (pa_cons (pe_op op_add (pv 1) pe_int) (pa_cons (pe_op op_add (pe_callB call_len_seq (by rfl) mLen PySem.boot_len (by exact (pa_cons (pe_fld (pv 0) rfl) pa_nil))) pe_int) pa_nil)))) (pg_name (i := 4) sc_choices_at.nd rfl (.inr rfl))
      (pss_one (ps_if (pt_cmpR op_gt (pe_ix ix_list (pe_fld (pv 0) rfl) (pv 4) (fun _ _ => rfl)) pe_int (nomark _))
        (pss_one (ps_expr (pe_bm PySem.F.plainAttrs_list PySem.F.slot_list_extend PySem.F.type_list_extend mt_extend (pv 3) (pa_cons
          (pe_lc (own := [("number", 5)]) (g := gName 5) (tt := tYes) (te := tTup (tCons (tVar 5) (tCons (tVar 4) tNil))) rfl sc_choices_at.nd (pi_list (pe_slice sl_list (pe_def D1 hr pass0 (pa_cons (pv 0) (pa_cons (pv 1) (pa_cons (pv 4) pa_nil)))) po_none (po_some (pv 2))))
            (blkOk_by (N := nCh) (sc := defScope s_choices_at) (by decide +kernel)) (fun _ _ _ _ _ => pg_name (i := 5) sc_choices_at.nd rfl (Or.inl rfl)) (fun _ _ _ _ _ => pts_nil) (fun _ _ _ _ _ => by exact (pe_tup (pa_cons (pv 5) (pa_cons (pv 4) pa_nil))))) pa_nil))))
        pss_nil)))
    (pss_one (ps_ret (pe_slice sl_list (pe_callB cr_sortedPO (by rfl) mS (by decide +kernel) (by exact (pa_cons (pv 3) pa_nil))) po_none (po_some (pv 2)))))), ?_⟩
  obtain ⟨pt, l, b, i, m, rfl, hP, ⟨hb, hkn, hk⟩, hi, hm, k⟩ := h
  obtain ⟨dxp, tx, wd, wa, h1, h2, h3, h4⟩ := id hP
  refine ⟨Nat.zero_le _, fun D nD => ?_⟩
  have sD : Same H (upd H D (.lst [])) := Same.new nD
  refine ⟨_, rfl, _, _, rfl, rfl, _, rfl, pt, A.Parting, dxp, _, _, rfl, sD _ _ h1, T.cl, T.n2, lk2 (by decide +kernel), wd, _, rfl, .inl (.of (sD _ _ h3)), _, _, rfl, rfl, _, _, rfl, ?_, ?_⟩
  · rw [nis_length]
    refine ⟨?_, ?_, ?_, ?_⟩ <;> omega
  rw [nis_length]
  have en : ((b.length : Int) + 1 - ((i : Int) + 1)).toNat = b.length - i := by omega
  rw [en]
  refine for_it (walk_range (lo := (i : Int) + 1) (n := b.length - i)) (fun t σ H' => ∃ (v4 : Option V) (cs : List Addr), σ = [some (.ref pt), some (ni i), some (ni m), some (.ref D), v4, none] ∧ Same H H' ∧ H' D = some (.lst (cs.map V.ref)) ∧
    Paired (fun c x => H' c = some (TpV x) ∧ H c = none) cs (gath (Sx05.known l) b i m t)) ?_ ?_ ?_ ?_
  · exact ⟨none, [], rfl, sD, upd_same, .nil⟩
  · exact fun _ _ _ _ _ => trivial
  · rintro t v σ H1 H2 ht ⟨v4, cs, rfl, s1, hD, pc⟩ ⟨rfl, hv⟩
    have hv : v = ni (i + 1 + t) := hv
    subst hv
    have hat : (nis (wsF (Sx05.known l) b))[i + 1 + t]? = some (ni (wy (Sx05.known l) b (i + 1 + t))) := by
      unfold nis
      rw [List.getElem?_map, wsF_get (by omega), fW_pos (by omega)]
      rfl
    have lc := Paired.length pc
    have lg := gath_len (k := Sx05.known l) (b := b) (i := i) (m := m) t
    have lg2 : t * m ≤ 100 * 20 := Nat.mul_le_mul (by omega) hm
    refine ⟨_, rfl, pt, A.Parting, dxp, _, _, rfl, s1 _ _ h1, T.cl, T.n3, lk3 (by decide +kernel) (by decide +kernel), _, rfl, wa, _, _, _, rfl, rfl, .of (s1 _ _ h4), atI_nat hat, _, _, rfl, rfl, _, rfl, ?_⟩
    by_cases hw : 0 < wy (Sx05.known l) b (i + 1 + t)
    · refine if_true_of (decide_eq_true (by omega)) ?_
      refine ⟨_, rfl, .inl ⟨rfl, _, .of hD⟩, _, rfl, _, rfl, _, rfl, pt, l, b, _, i, i + 1 + t, rfl, hP.same s1, by omega, by omega, fun H3 p s3 hp => ?_⟩
      refine ⟨_, rfl, _, rfl, p, _, rfl, .of hp, fun q nq => ?_⟩
      have ec : cutV (nis (nb (Sx05.known l) b i (i + 1 + t))) none (some ((m : Nat) : Int)) = nis ((nb (Sx05.known l) b i (i + 1 + t)).take m) := by
        rw [cutV_takeN]
        unfold nis
        rw [List.map_take]
      rw [ec]
      have s4 : Same H3 (upd H3 q (.lst (nis ((nb (Sx05.known l) b i (i + 1 + t)).take m)))) := Same.new nq
      have hq : upd H3 q (.lst (nis ((nb (Sx05.known l) b i (i + 1 + t)).take m))) q = some (.lst (nis ((nb (Sx05.known l) b i (i + 1 + t)).take m))) := upd_same
      generalize upd H3 q (.lst (nis ((nb (Sx05.known l) b i (i + 1 + t)).take m))) = H4 at *
      have s24 := s3.trans s4
      have s04 := s1.trans s24
      have ln : ((nb (Sx05.known l) b i (i + 1 + t)).take m).length ≤ 20 := by rw [List.length_take]; omega
      generalize hns : (nb (Sx05.known l) b i (i + 1 + t)).take m = ns at *
      refine ⟨q, rfl, ⟨_, .of hq⟩, fun U nU => ?_⟩
      have sU : Same H4 (upd H4 U (.lst [])) := Same.new nU
      refine lc_it (walk_list (K := K) (a := q) (xs := nis ns)) (fun j H' => ∃ us : List Addr, Same H4 H' ∧ H' U = some (.lst (us.map V.ref)) ∧ Paired (fun c x => H' c = some (TpV x) ∧ H c = none) us ((ns.take j).map fun n => (n, i + 1 + t))) ?_ ?_ ?_ ?_
      · exact ⟨[], sU, upd_same, by rw [List.take_zero]; exact .nil⟩
      · rintro j H' hj ⟨us, s5, _⟩
        exact .of (s5 _ _ hq)
      · rintro j v H5 H6 hj ⟨us, s5, hU, pu⟩ ⟨rfl, hv⟩
        obtain ⟨n, hn, rfl⟩ := nis_get hv
        have lu := Paired.length pu
        rw [List.length_map, List.length_take] at lu
        refine ⟨rfl, yes_of ?_⟩
        refine ⟨_, rfl, _, rfl, by show 2 ≤ sizeLine; decide, fun c nc => ?_⟩
        have s7 : Same H6 (upd H6 c (.tup [ni n, ni (i + 1 + t)])) := Same.new nc
        have hcU : c ≠ U := fun z => by rw [z, hU] at nc; cases nc
        refine ⟨_, s7 _ _ hU, ?_, us ++ [c], Same.put (s5.trans s7) nU, ?_, ?_⟩
        · rw [List.length_map, sizeLine_eq]
          omega
        · rw [upd_same, List.map_append]
          rfl
        · rw [List.take_add_one, hn, List.map_append]
          refine paired_snoc (Paired.mapP pu fun a x z => ⟨?_, z.2⟩) ⟨?_, (s04.trans s5).free nc⟩
          · have hne : a ≠ U := fun y => by rw [y, hU] at z; cases z.1
            rw [upd_ne hne]
            exact s7 _ _ z.1
          · rw [upd_ne hcU, upd_same]
      rintro H5 ⟨us, s5, hU, pu⟩
      rw [nis_length, List.take_length] at pu
      have lu := Paired.length pu
      rw [List.length_map] at lu
      have s25 := s24.trans s5
      have hD5 := s25 _ _ hD
      refine ⟨D, U, _, _, rfl, rfl, hD5, hU, ?_, ?_⟩
      · rw [List.length_map, List.length_map, sizeLine_eq]
        omega
      refine ⟨_, cs ++ us, rfl, Same.put (s1.trans s25) nD, ?_, ?_⟩
      · rw [upd_same, List.map_append]
      · show Paired _ _ (gath (Sx05.known l) b i m t ++ if 0 < wy (Sx05.known l) b (i + 1 + t) then _ else _)
        rw [if_pos hw, hns]
        have up : ∀ {a : Addr} {x : Pr}, H5 a = some (TpV x) → upd H5 D (.lst (cs.map V.ref ++ us.map V.ref)) a = some (TpV x) := fun {a x} z => by
          have hne : a ≠ D := fun y => by rw [y, hD5] at z; cases z
          rw [upd_ne hne]
          exact z
        exact paired_app (Paired.mapP pc fun a x z => ⟨up (s25 _ _ z.1), z.2⟩) (Paired.mapP pu fun a x z => ⟨up z.1, z.2⟩)
    · refine if_false_of (decide_eq_false (by omega)) ?_
      refine ⟨_, cs, rfl, s1, hD, ?_⟩
      show Paired _ _ (gath (Sx05.known l) b i m t ++ if 0 < wy (Sx05.known l) b (i + 1 + t) then _ else _)
      rw [if_neg hw, List.append_nil]
      exact pc
  · rintro σ H1 ⟨v4, cs, rfl, s1, hD, pc⟩
    have pc1 := Paired.mapP pc (G := fun c x => H1 c = some (TpV x)) fun _ _ z => z.1
    have hnew : ∀ c ∈ cs, H c = none ∧ ∃ x, H1 c = some (TpV x) := fun c hc => by
      obtain ⟨j, hj⟩ := List.mem_iff_getElem?.mp hc
      obtain ⟨x, _, h1, h2⟩ := paired_get pc hj
      exact ⟨h2, x, h1⟩
    refine ⟨_, rfl, D, _, pK H1, rfl, .of hD, ?_, fun ys p hs hst np => ?_⟩
    · intro v hv
      obtain ⟨c, hc, rfl⟩ := List.mem_map.mp hv
      obtain ⟨_, x, hx⟩ := hnew c hc
      refine ⟨c, rfl, ?_⟩
      rw [hx]
      show some (HO.tup [ni x.1, ni x.2]) = some (HO.tup [V.int ((pN H1 c).1 : Int), V.int ((pN H1 c).2 : Int)])
      rw [pN_is hx]
    obtain ⟨ey, py⟩ := refs_back' hst.perm
    generalize hcs' : ys.map toA = cs' at *
    subst ey
    have hin : ∀ c ∈ cs', c ∈ cs := fun c hc => py.mem_iff.mp hc
    have s2 : Same H1 (upd H1 p (.lst (cs'.map V.ref))) := Same.new np
    have hp : upd H1 p (.lst (cs'.map V.ref)) p = some (.lst (cs'.map V.ref)) := upd_same
    generalize upd H1 p (.lst (cs'.map V.ref)) = H2 at *
    refine ⟨_, rfl, _, rfl, p, _, rfl, .of hp, fun q nq => ?_⟩
    rw [cutV_takeN, ← List.map_take]
    have s3 : Same H2 (upd H2 q (.lst ((cs'.take m).map V.ref))) := Same.new nq
    have s03 := (s1.trans s2).trans s3
    have fq : H q = none := (s1.trans s2).free nq
    have hY : (cs'.map (pN H1)).take m = (chs (Sx05.known l) b i).take m := by
      refine sorted_is hk hi ?_ ?_
      · have z := py.map (pN H1)
        rw [pN_map pc1] at z
        exact z
      · rw [List.pairwise_map]
        have z : (cs'.map V.ref).Pairwise fun x y => ltP (pK H1) y x = false := hs
        rw [List.pairwise_map] at z
        refine z.imp fun {x y} h => ?_
        have h : SrtO.lexB (((pN H1 y).1 : Int), ((pN H1 y).2 : Int)) (((pN H1 x).1 : Int), ((pN H1 x).2 : Int)) = false := h
        have h' := SrtO.lexB_no.mp h
        dsimp only at h'
        omega
    refine k _ q s03 fq ⟨cs'.take m, (New.at fq).trans upd_same, ?_⟩
    rw [← hY]
    have z := paired_take m (pN_back (H := H1) (cs := cs') fun c hc => (hnew c (hin c hc)).2)
    have sub : ∀ c ∈ cs'.take m, H c = none := fun c hc => (hnew c (hin c (List.mem_of_mem_take hc))).1
    exact paired_mem z fun c hc x e => (New.at (sub c hc)).trans ((s2.trans s3) _ _ e)
end
end G

end

section
set_option Elab.async false
set_option linter.all false
set_option maxRecDepth 100000
set_option maxHeartbeats 4000000
namespace G
open PySem PySem.Spec PyProof.Rows L2 GR
/-! ### rows grown -/
def BgRow (H : Hp) (r : Addr) (x : List Nat × Nat) : Prop := ∃ q, H r = some (.tup [.ref q, ni x.2]) ∧ H q = some (.lst (nis x.1))
theorem BgRow.same {H H' : Hp} (s : Same H H') {r : Addr} {x : List Nat × Nat} (h : BgRow H r x) : BgRow H' r x := by
  obtain ⟨q, e1, e2⟩ := h
  exact ⟨q, s _ _ e1, s _ _ e2⟩
def BgAt (H : Hp) (p : Addr) (rows : Bg) : Prop := ∃ rs : List Addr, H p = some (.lst (rs.map V.ref)) ∧ Paired (BgRow H) rs rows
theorem BgAt.same {H H' : Hp} (s : Same H H') {p : Addr} {rows : Bg} (h : BgAt H p rows) : BgAt H' p rows := by
  obtain ⟨rs, e, r⟩ := h
  exact ⟨rs, s _ _ e, Paired.mapP r fun _ _ z => z.same s⟩
def ChsAt (H : Hp) (c : Addr) (C : List (List Pr)) : Prop := ∃ ls : List Addr, H c = some (.lst (ls.map V.ref)) ∧ Paired (ChAt H) ls C
theorem ChsAt.same {H H' : Hp} (s : Same H H') {c : Addr} {C : List (List Pr)} (h : ChsAt H c C) : ChsAt H' c C := by
  obtain ⟨rs, e, r⟩ := h
  exact ⟨rs, s _ _ e, Paired.mapP r fun _ _ z => z.same s⟩
abbrev cOfL (C : List (List Pr)) : Nat → List Pr := fun j => C.getD j []
def spGrown : Sp := fun vs H Q _ => ∃ (p c : Addr) (rows : Bg) (C : List (List Pr)), vs = [.ref p, .ref c] ∧ BgAt H p rows ∧ ChsAt H c C ∧ rows.length ≤ 20 ∧ (∀ r ∈ rows, r.2 ≤ C.length ∧ r.1.length ≤ 100) ∧ (∀ L ∈ C, L.length ≤ 20) ∧
  ∀ H' q, Same H H' → H q = none → BgAt H' q (growL C.length (cOfL C) rows) → Q (.ref q) H'
theorem getD_le {C : List (List Pr)} (h : ∀ L ∈ C, L.length ≤ 20) (j : Nat) : (cOfL C j).length ≤ 20 := by
  unfold cOfL
  rw [List.getD_eq_getElem?_getD]
  cases e : C[j]? with
  | none => exact Nat.zero_le _
  | some L => exact h L (List.mem_of_getElem? e)
theorem grow_len {n : Nat} {C : Nat → List Pr} (h : ∀ j, (C j).length ≤ 20) : ∀ rows : Bg, (growL n C rows).length ≤ rows.length * 20
  | [] => Nat.zero_le _
  | r :: rows => by
    have ih := grow_len (n := n) h rows
    unfold growL at ih ⊢
    rw [List.flatMap_cons, List.length_append, List.length_cons, Nat.add_mul]
    have : (grow1 n C r).length ≤ 20 := by
      unfold grow1
      split
      · exact (by decide : 1 ≤ 20)
      · rw [List.length_map]
        exact h _
    omega
section
variable {P : Program} {w : World} {K : PySem.W.Frag} {mg : Str → Option Value} {base : Heap} {A : Adr} {f1 f2 f3 : Addr}
abbrev nGr : List Str := ["begun", "choices", "rows", "numbers", "made", "number", "end"]
theorem sc_grown : FnScope nGr ["begun", "choices"] (defScope s_grown) := ⟨rfl, rfl, rfl, by decide +kernel, rfl, by decide +kernel, by decide +kernel⟩
theorem ok_grown {f : Addr} {fd : FuncData} (F : Fun K "grown" "grown" s_grown f fd) (mLen : mg "len" = none) : FnOk P w K mg base CX0 1 f fd ["begun", "choices"] spGrown := by
  refine F.ok sc_grown (fun vs H Q E h => ?_) (fun cdv Ar outer s H vs Q E hr h => ?_)
  · obtain ⟨p, c, rows, C, rfl, _⟩ := h
    rfl
  refine ⟨_, pss_cons (ps_set (i := 2) sc_grown.nd rfl (.inl rfl) (pe_lst pa_nil))
    (pss_cons (ps_for PassesOwn.never rfl (pi_list (pv 0)) (pg_tup rfl (pgs_cons (pg_name (i := 3) sc_grown.nd rfl (.inr rfl)) (pgs_cons (pg_name (i := 4) sc_grown.nd rfl (.inl rfl)) pgs_nil)))
      (pss_one (ps_if (pt_cmpR op_eq (pv 4) (pe_callB call_len_seq (by rfl) mLen PySem.boot_len (by exact (pa_cons (pv 1) pa_nil))) (nomark _))
        (pss_one (ps_expr (pe_bm PySem.F.plainAttrs_list PySem.F.slot_list_append PySem.F.type_list_append mt_append (pv 2) (pa_cons (pe_tup (by exact (pa_cons (pv 3) (pa_cons (pv 4) pa_nil)))) pa_nil))))
        (pss_one (ps_expr (pe_bm PySem.F.plainAttrs_list PySem.F.slot_list_extend PySem.F.type_list_extend mt_extend (pv 2) (pa_cons
          (pe_lc (own := [("number", 5), ("end", 6)]) (g := gTup K 2 (gCons (gName 5) (gCons (gName 6) gNil))) (tt := tYes) (te := tTup (tCons (tOp rCat (tVar 3) (tLst (tCons (tVar 5) tNil))) (tCons (tVar 6) tNil))) rfl sc_grown.nd (pi_list (pe_ix ix_list (pv 1) (pv 4) (fun _ _ => rfl)))
            (blkOk_by (N := nGr) (sc := defScope s_grown) (by decide +kernel)) (fun _ _ _ _ _ => by exact (pg_tup rfl (pgs_cons (pg_name (i := 5) sc_grown.nd rfl (Or.inl rfl)) (pgs_cons (pg_name (i := 6) sc_grown.nd rfl (Or.inl rfl)) pgs_nil)))) (fun _ _ _ _ _ => pts_nil)
            (fun _ _ _ _ _ => by exact (pe_tup (by exact (pa_cons (pe_op op_cat (pv 3) (pe_lst (by exact (pa_cons (pv 5) pa_nil)))) (pa_cons (pv 6) pa_nil)))))) pa_nil)))))))
    (pss_one (ps_ret (pv 2)))), ?_⟩
  obtain ⟨p, c, rows, C, rfl, ⟨rs, hp, pr⟩, ⟨ls, hc, pl⟩, hl, hrow, hC, k⟩ := h
  have lr := Paired.length pr
  have ll := Paired.length pl
  have hCl := getD_le hC
  refine ⟨Nat.zero_le _, fun D nD => ?_⟩
  have sD : Same H (upd H D (.lst [])) := Same.new nD
  refine ⟨_, rfl, p, rfl, ⟨_, .of (sD _ _ hp)⟩, ?_⟩
  refine for_it (walk_list (K := K) (a := p) (xs := rs.map V.ref)) (fun i σ H' => ∃ (v3 v4 : Option V) (us : List Addr), σ = [some (.ref p), some (.ref c), some (.ref D), v3, v4, none, none] ∧ Same H H' ∧ H' D = some (.lst (us.map V.ref)) ∧
    Paired (BgRow (Hd (fun b => b = D) H')) us (growL C.length (cOfL C) (rows.take i))) ?_ ?_ ?_ ?_
  · exact ⟨none, none, [], rfl, sD, upd_same, by rw [List.take_zero]; exact .nil⟩
  · rintro i σ H' hi ⟨v3, v4, us, _, s1, _⟩
    exact .of (s1 _ _ hp)
  · rintro i v σ H1 H2 hi ⟨v3, v4, us, rfl, s1, hD, pu⟩ ⟨rfl, hv⟩
    rw [List.length_map] at hi
    rw [List.getElem?_map] at hv
    obtain ⟨r, hr1, rfl⟩ := Option.map_eq_some_iff.mp hv
    obtain ⟨x, hx1, q, e1, e2⟩ := paired_get pr hr1
    obtain ⟨hx2, hx3⟩ := hrow x (List.mem_of_getElem? hx1)
    have lu := Paired.length pu
    have lg := grow_len (n := C.length) hCl (rows.take i)
    have ltk : (rows.take i).length ≤ 20 := by rw [List.length_take]; omega
    have eg : growL C.length (cOfL C) (rows.take (i + 1)) = growL C.length (cOfL C) (rows.take i) ++ grow1 C.length (cOfL C) x := by
      rw [List.take_add_one, hx1]
      unfold growL
      rw [List.flatMap_append]
      simp
    refine ⟨r, _, rfl, .of (s1 _ _ e1), rfl, _, _, rfl, _, _, rfl, rfl, ?_⟩
    refine ⟨_, rfl, _, rfl, c, _, rfl, .inl (.of (s1 _ _ hc)), rfl, _, rfl, ?_⟩
    rw [List.length_map, ll]
    by_cases hx : x.2 = C.length
    · refine if_true_of (decide_eq_true (by rw [hx])) ?_
      refine ⟨_, rfl, .inl ⟨rfl, _, .of hD⟩, _, rfl, _, rfl, by show 2 ≤ sizeLine; decide, fun t nt => ?_⟩
      have s3 : Same H2 (upd H2 t (.tup [.ref q, ni x.2])) := Same.new nt
      have htD : t ≠ D := fun z => by rw [z, hD] at nt; cases nt
      have hqD : q ≠ D := ne_of_none e2 nD
      refine ⟨D, _, _, rfl, rfl, s3 _ _ hD, ?_, ?_⟩
      · rw [List.length_map, sizeLine_eq]
        omega
      refine ⟨_, _, us ++ [t], rfl, Same.put (s1.trans s3) nD, ?_, ?_⟩
      · rw [upd_same, List.map_append]
        rfl
      · rw [Hd.updS (S := fun b => b = D) rfl, eg]
        unfold grow1
        rw [if_pos hx]
        exact paired_snoc (Paired.mapP pu fun _ _ z => z.same (Hd.mono s3)) ⟨q, Hd.of htD upd_same, Hd.of hqD ((s1.trans s3) _ _ e2)⟩
    · refine if_false_of (decide_eq_false fun z => hx (by have := V.int.inj z; omega)) ?_
      have hxl : x.2 < C.length := by omega
      have hCx : C[x.2]? = some C[x.2] := List.getElem?_eq_getElem hxl
      obtain ⟨cl, hcl, ⟨cs, ec, pc⟩⟩ := paired_getR pl hCx
      have lc := Paired.length pc
      have hLl : C[x.2].length ≤ 20 := hC _ (List.getElem_mem _)
      have hcx : cOfL C x.2 = C[x.2] := by
        show C.getD x.2 [] = _
        rw [List.getD_eq_getElem?_getD, hCx]
        rfl
      generalize C[x.2] = L at *
      have hat : (ls.map V.ref)[x.2]? = some (.ref cl) := by rw [List.getElem?_map, hcl]; rfl
      refine ⟨_, rfl, .inl ⟨rfl, _, .of hD⟩, _, rfl, _, rfl, c, _, _, _, rfl, rfl, .of (s1 _ _ hc), atI_nat hat, cl, rfl, ⟨_, .of (s1 _ _ ec)⟩, fun U nU => ?_⟩
      have sU : Same H2 (upd H2 U (.lst [])) := Same.new nU
      have hS2 : ∀ {H' : Hp} {xs : List V}, Same H2 H' → H' U = some (.lst xs) → ∀ b, And1 (fun b => b = D) U b → H' b ≠ none := by
        rintro H' xs s4 hU b (rfl | rfl)
        · rw [s4 _ _ hD]
          exact fun z => by cases z
        · rw [hU]
          exact fun z => by cases z
      refine lc_it (walk_list (K := K) (a := cl) (xs := cs.map V.ref)) (fun j H' => ∃ ws : List Addr, Same H2 H' ∧ H' U = some (.lst (ws.map V.ref)) ∧ Paired (BgRow (Hd (And1 (fun b => b = D) U) H')) ws ((L.take j).map fun y => (x.1 ++ [y.1], y.2))) ?_ ?_ ?_ ?_
      · exact ⟨[], sU, upd_same, by rw [List.take_zero]; exact .nil⟩
      · rintro j H' hj ⟨ws, s4, _⟩
        exact .of (s4 _ _ (s1 _ _ ec))
      · rintro j v H4 H5 hj ⟨ws, s4, hU, pw⟩ ⟨rfl, hv⟩
        rw [List.getElem?_map] at hv
        obtain ⟨d, hd1, rfl⟩ := Option.map_eq_some_iff.mp hv
        obtain ⟨y, hy1, hy2⟩ := paired_get pc hd1
        have s05 := s1.trans s4
        have lw := Paired.length pw
        rw [List.length_map, List.length_take] at lw
        refine ⟨d, _, rfl, .of (s05 _ _ hy2), rfl, _, _, rfl, _, _, rfl, rfl, rfl, yes_of ?_⟩
        refine ⟨_, rfl, _, rfl, by show 1 ≤ sizeLine; decide, fun n1 nn1 => ?_⟩
        have s6 : Same H5 (upd H5 n1 (.lst [ni y.1])) := Same.new nn1
        have h6 : upd H5 n1 (.lst [ni y.1]) n1 = some (.lst [ni y.1]) := upd_same
        generalize upd H5 n1 (.lst [ni y.1]) = H6 at *
        refine ⟨q, n1, _, _, rfl, rfl, (s05.trans s6) _ _ e2, h6, ?_, fun n2 nn2 => ?_⟩
        · rw [nis_length, sizeLine_eq]
          show x.1.length + 1 ≤ _
          omega
        have en : nis x.1 ++ [ni y.1] = nis (x.1 ++ [y.1]) := by unfold nis; rw [List.map_append]; rfl
        rw [en]
        have s7 : Same H6 (upd H6 n2 (.lst (nis (x.1 ++ [y.1])))) := Same.new nn2
        have h7 : upd H6 n2 (.lst (nis (x.1 ++ [y.1]))) n2 = some (.lst (nis (x.1 ++ [y.1]))) := upd_same
        have hn2 : ¬ And1 (fun b => b = D) U n2 := notS (hS2 (s4.trans s6) (s6 _ _ hU)) nn2
        generalize upd H6 n2 (.lst (nis (x.1 ++ [y.1]))) = H7 at *
        refine ⟨_, rfl, by show 2 ≤ sizeLine; decide, fun t nt => ?_⟩
        have s8 : Same H7 (upd H7 t (.tup [.ref n2, ni y.2])) := Same.new nt
        have s57 := s6.trans s7
        have s58 := s57.trans s8
        have ht : ¬ And1 (fun b => b = D) U t := notS (hS2 (s4.trans s57) (s57 _ _ hU)) nt
        refine ⟨_, s58 _ _ hU, ?_, ws ++ [t], Same.put (s4.trans s58) nU, ?_, ?_⟩
        · rw [List.length_map, sizeLine_eq]
          omega
        · rw [upd_same, List.map_append]
          rfl
        · rw [Hd.updS (.inr rfl), List.take_add_one, hy1, List.map_append]
          exact paired_snoc (Paired.mapP pw fun _ _ z => z.same (Hd.mono s58)) ⟨n2, Hd.of ht upd_same, Hd.of hn2 (s8 _ _ h7)⟩
      rintro H3 ⟨ws, s3, hU, pw⟩
      rw [List.length_map, lc, List.take_length] at pw
      have lw := Paired.length pw
      rw [List.length_map] at lw
      refine ⟨D, U, _, _, rfl, rfl, s3 _ _ hD, hU, ?_, ?_⟩
      · rw [List.length_map, List.length_map, sizeLine_eq]
        omega
      refine ⟨_, _, us ++ ws, rfl, Same.put (s1.trans s3) nD, ?_, ?_⟩
      · rw [upd_same, List.map_append]
      · rw [Hd.updS (S := fun b => b = D) rfl, eg]
        unfold grow1
        rw [if_neg hx, hcx]
        exact paired_app (Paired.mapP pu fun _ _ z => z.same (Hd.mono s3)) (Paired.mapP pw fun _ _ z => z.same Hd.wk1)
  · rintro σ H1 ⟨v3, v4, us, rfl, s1, hD, pu⟩
    rw [List.length_map, lr, List.take_length] at pu
    exact ⟨_, rfl, k _ D s1 nD ⟨us, hD, Paired.mapP pu fun _ _ z => z.same Hd.sub⟩⟩
end
end G

end

section
set_option Elab.async false
set_option linter.all false
set_option maxRecDepth 100000
set_option maxHeartbeats 4000000
namespace G
open PySem PySem.Spec PyProof.Rows L2 GR
/-! ### first_rows -/
theorem bgn_ok {n m : Nat} {C : Nat → List Pr} (hC : ∀ i, ∀ c ∈ C i, c.2 ≤ n) : ∀ t, ∀ r ∈ bgn n m C t, r.2 ≤ n ∧ r.1.length ≤ t
  | 0, r, h => by
    have h : r ∈ [(([] : List Nat), 0)] := h
    rw [List.mem_singleton.mp h]
    exact ⟨Nat.zero_le _, Nat.le_refl _⟩
  | t + 1, r, h => by
    have h : r ∈ (growL n C (bgn n m C t)).take m := h
    obtain ⟨x, hx, hr⟩ := List.mem_flatMap.mp (List.mem_of_mem_take h)
    obtain ⟨g1, g2⟩ := bgn_ok hC t x hx
    unfold grow1 at hr
    split at hr
    · rw [List.mem_singleton.mp hr]
      exact ⟨g1, by omega⟩
    · obtain ⟨c, hc, rfl⟩ := List.mem_map.mp hr
      refine ⟨hC _ c hc, ?_⟩
      show (x.1 ++ [c.1]).length ≤ t + 1
      rw [List.length_append]
      exact Nat.add_le_add_right g2 1
theorem bgn_len {n m : Nat} {C : Nat → List Pr} (hm : m ≤ 20) : ∀ t, (bgn n m C t).length ≤ 20
  | 0 => by show 1 ≤ 20; decide
  | t + 1 => by
    show ((growL n C (bgn n m C t)).take m).length ≤ 20
    rw [List.length_take]
    omega
/-- the table of choices -/
def chT (k : List Pie) (b : Bytes) (m : Nat) : List (List Pr) := (List.range b.length).map fun i => (chs k b i).take m
theorem chT_len (k : List Pie) (b : Bytes) (m : Nat) : (chT k b m).length = b.length := by
  unfold chT
  rw [List.length_map, List.length_range]
theorem chT_get {k : List Pie} {b : Bytes} {m i : Nat} (h : i < b.length) : cOfL (chT k b m) i = (chs k b i).take m := by
  show (chT k b m).getD i [] = _
  unfold chT
  rw [List.getD_eq_getElem?_getD, List.getElem?_map, List.getElem?_range h]
  rfl
theorem chT_ok {k : List Pie} (hk : ∀ p ∈ k, p.form ≠ []) {b : Bytes} {m i : Nat} {c : Pr} (h : c ∈ cOfL (chT k b m) i) : c.2 ≤ b.length := by
  by_cases hi : i < b.length
  · rw [chT_get hi] at h
    exact (chs_mem hk (Nat.le_of_lt hi) (List.mem_of_mem_take h)).2.1
  · have e : cOfL (chT k b m) i = [] := by
      show (chT k b m).getD i [] = _
      rw [List.getD_eq_getElem?_getD, List.getElem?_eq_none (by rw [chT_len]; omega)]
      rfl
    rw [e] at h
    cases h
theorem apart_zero {k : List Pie} (hk : ∀ p ∈ k, p.form ≠ []) {b : Bytes} {m : Nat} (h : Sx05.ways k b = 0) : Sx05.apart k b m = [] := by
  rw [apart_is hk]
  rw [ways_is hk] at h
  rw [List.length_eq_zero_iff.mp h, List.take_nil]
theorem apart_told {k : List Pie} (hk : ∀ p ∈ k, p.form ≠ []) {b : Bytes} {m : Nat} (h : Sx05.ways k b ≠ 0) : (bgn b.length m (cOfL (chT k b m)) b.length).map (·.1) = Sx05.apart k b m := by
  have hb : 0 < b.length := by
    refine List.length_pos_iff.mpr fun z => h ?_
    rw [z]
    rfl
  have h0 : 0 < wy k b 0 := by
    unfold wy
    rw [if_pos rfl]
    omega
  rw [apart_is hk]
  exact rows_told hk hb h0 fun i hi => chT_get hi
def spRows (A : Adr) : Sp := fun vs H Q _ => ∃ (pt : Addr) (l : List Sx05.Item) (b : Bytes) (m : Nat), vs = [.ref pt, ni m] ∧ PtAt A H pt l b (wsF (Sx05.known l) b) ∧ PtOk l b ∧ m ≤ 20 ∧
  ∀ H' p qs, Same H H' → H p = none → H' p = some (.lst (qs.map V.ref)) → Paired (fun q x => H' q = some (.lst (nis x))) qs (Sx05.apart (Sx05.known l) b m) → Q (.ref p) H'
theorem bg_lists {H : Hp} : ∀ {rs : List Addr} {rows : Bg}, Paired (BgRow H) rs rows → ∃ qs : List Addr, Paired (fun q x => H q = some (.lst (nis x))) qs (rows.map (·.1)) ∧ qs.length = rs.length ∧ ∀ (i : Nat) (r : Addr), rs[i]? = some r → ∃ (q : Addr) (v : V), qs[i]? = some q ∧ H r = some (.tup [.ref q, v])
  | _, _, .nil => ⟨[], .nil, rfl, fun i r h => by simp at h⟩
  | _, _, .cons r t => by
    obtain ⟨qs, h1, h2, h3⟩ := bg_lists t
    obtain ⟨q, e1, e2⟩ := r
    refine ⟨q :: qs, .cons e2 h1, congrArg Nat.succ h2, fun i r h => ?_⟩
    cases i with
    | zero =>
      have h : some _ = some r := h
      cases h
      exact ⟨q, _, rfl, e1⟩
    | succ i => exact h3 i r h
section
variable {P : Program} {w : World} {K : PySem.W.Frag} {mg : Str → Option Value} {base : Heap} {A : Adr} {f1 f2 f3 : Addr}
abbrev nFr : List Str := ["parting", "most", "choices", "begun", "count", "at", "numbers", "made"]
theorem sc_first_rows : FnScope nFr ["parting", "most"] (defScope s_first_rows) := ⟨rfl, rfl, rfl, by decide +kernel, rfl, by decide +kernel, by decide +kernel⟩
theorem ok_first_rows {f : Addr} {fd : FuncData} (F : Fun K "first_rows" "first_rows" s_first_rows f fd) (T : PtT K A) (D1 : Def P w K mg base CX0 1 "amount_of_rows" f1 ["parting"] (spAmount A)) (D2 : Def P w K mg base CX0 2 "choices_at" f2 ["parting", "at", "most"] (spChoices A)) (D3 : Def P w K mg base CX0 1 "grown" f3 ["begun", "choices"] spGrown)
    (mLen : mg "len" = none) (mR : mg "range" = none) : FnOk P w K mg base CX0 3 f fd ["parting", "most"] (spRows A) := by
  refine F.ok sc_first_rows (fun vs H Q E h => ?_) (fun cdv Ar outer s H vs Q E hr h => ?_)
  · obtain ⟨pt, l, b, m, rfl, _⟩ := h
    rfl
  refine ⟨_, pss_cons (ps_if (pt_cmpR op_eq (pe_def D1 hr pass0 (pa_cons (pv 0) pa_nil)) pe_int (nomark _)) (pss_one (ps_ret (pe_lst pa_nil))) pss_nil)
    (pss_cons (ps_setLc (i := 2) (own := [("at", 5)]) (g := gName 5) (tt := tYes) (te := teCall (spChoices A) (tCons (tVar 0) (tCons (tVar 5) (tCons (tVar 1) tNil)))) rfl sc_first_rows.nd rfl rfl (sw_true rfl rfl rfl (by decide +kernel))
      (pi_range1 (by rfl) mR (by exact (pa_cons (pe_callB call_len_seq (by rfl) mLen PySem.boot_len (by exact (pa_cons (pe_fld (pv 0) rfl) pa_nil))) pa_nil))) (blkOk_by (N := nFr) (sc := defScope s_first_rows) (by decide +kernel)) (fun _ _ _ _ _ => pg_name (i := 5) sc_first_rows.nd rfl (Or.inl rfl)) (fun _ _ _ _ _ => pts_nil)
      (fun _ _ _ _ _ => by exact (pe_def D2 hr pass0 (pa_cons (pv 0) (pa_cons (pv 5) (pa_cons (pv 1) pa_nil))))))
    (pss_cons (ps_set (i := 3) sc_first_rows.nd rfl (.inl rfl) (pe_lst (by exact (pa_cons (pe_tup (by exact (pa_cons (pe_lst pa_nil) (pa_cons pe_int pa_nil)))) pa_nil))))
    (pss_cons (ps_for PassesOwn.never rfl (pi_range1 (by rfl) mR (by exact (pa_cons (pe_callB call_len_seq (by rfl) mLen PySem.boot_len (by exact (pa_cons (pv 2) pa_nil))) pa_nil))) (pg_name (i := 4) sc_first_rows.nd rfl (.inl rfl))
      (pss_one (ps_set (i := 3) sc_first_rows.nd rfl (.inl rfl) (pe_slice sl_list (pe_def D3 hr pass0 (pa_cons (pv 3) (pa_cons (pv 2) pa_nil))) po_none (po_some (pv 1))))))
    (pss_one (ps_ret (pe_lc (own := [("numbers", 6), ("made", 7)]) (g := gTup K 2 (gCons (gName 6) (gCons (gName 7) gNil))) (tt := tYes) (te := tVar 6) rfl sc_first_rows.nd (pi_list (pv 3)) (blkOk_by (N := nFr) (sc := defScope s_first_rows) (by decide +kernel))
      (fun _ _ _ _ _ => by exact (pg_tup rfl (pgs_cons (pg_name (i := 6) sc_first_rows.nd rfl (Or.inl rfl)) (pgs_cons (pg_name (i := 7) sc_first_rows.nd rfl (Or.inl rfl)) pgs_nil)))) (fun _ _ _ _ _ => pts_nil) (fun _ _ _ _ _ => pv 6))))))), ?_⟩
  obtain ⟨pt, l, b, m, rfl, hP, hO, hm, k⟩ := h
  obtain ⟨hb, hkn, hk⟩ := id hO
  obtain ⟨dxp, tx, wd, wa, h1, h2, h3, h4⟩ := id hP
  refine ⟨_, rfl, pt, l, b, rfl, hP, rfl, _, rfl, ?_⟩
  by_cases hw : Sx05.ways (Sx05.known l) b = 0
  · refine if_true_of (decide_eq_true (by rw [hw]; rfl)) ?_
    refine ⟨Nat.zero_le _, fun p np => ?_⟩
    refine k _ p [] (Same.new np) np upd_same ?_
    rw [apart_zero hk hw]
    exact .nil
  refine if_false_of (decide_eq_false fun z => hw (by have := V.int.inj z; omega)) ?_
  -- the choices
  refine ⟨_, rfl, pt, A.Parting, dxp, _, _, rfl, h1, T.cl, T.n2, lk2 (by decide +kernel), wd, _, rfl, .inl (.of h3), _, rfl, ?_, ?_, fun D nD => ?_⟩
  · rw [nis_length]
    omega
  · rw [nis_length]
    omega
  have eN : (((nis b).length : Nat) : Int).toNat = b.length := by rw [nis_length]; rfl
  rw [eN]
  have sD : Same H (upd H D (.lst [])) := Same.new nD
  refine lc_it (walk_range (lo := 0) (n := b.length)) (fun j H' => ∃ ls : List Addr, Same H H' ∧ H' D = some (.lst (ls.map V.ref)) ∧ Paired (ChAt (Hd (fun b => b = D) H')) ls ((List.range j).map fun i => (chs (Sx05.known l) b i).take m)) ?_ ?_ ?_ ?_
  · exact ⟨[], sD, upd_same, .nil⟩
  · exact fun _ _ _ _ => trivial
  · rintro j v H1 H2 hj ⟨ls, s1, hD, pl⟩ ⟨rfl, hv⟩
    have hv : v = ni j := by
      rw [hv]
      show V.int (0 + (j : Int)) = V.int _
      rw [Int.zero_add]
    subst hv
    have ll := Paired.length pl
    rw [List.length_map, List.length_range] at ll
    refine ⟨rfl, yes_of ?_⟩
    refine ⟨_, rfl, _, rfl, _, rfl, pt, l, b, j, m, rfl, hP.same s1, hO, hj, hm, fun H3 p s3 np hp => ?_⟩
    refine ⟨_, s3 _ _ hD, ?_, ls ++ [p], Same.put (s1.trans s3) nD, ?_, ?_⟩
    · rw [List.length_map, sizeLine_eq]
      omega
    · rw [upd_same, List.map_append]
      rfl
    · rw [Hd.updS (S := fun b => b = D) rfl, List.range_succ, List.map_append]
      refine paired_snoc (Paired.mapP pl fun _ _ z => z.same (Hd.mono s3)) (hp.same (Hd.new fun c hc => ?_))
      rw [hc, hD]
      exact fun z => by cases z
  rintro H1 ⟨ls, s1, hD, pl⟩
  have hC : ChsAt H1 D (chT (Sx05.known l) b m) := ⟨ls, hD, Paired.mapP pl fun _ _ z => z.same Hd.sub⟩
  clear pl
  -- begun
  refine ⟨Nat.zero_le _, fun e ne => ?_⟩
  have s2 : Same H1 (upd H1 e (.lst [])) := Same.new ne
  have he : upd H1 e (.lst []) e = some (.lst []) := upd_same
  generalize upd H1 e (.lst []) = H2 at *
  refine ⟨by show 2 ≤ sizeLine; decide, fun t nt => ?_⟩
  have s3 : Same H2 (upd H2 t (.tup [.ref e, .int 0])) := Same.new nt
  have ht : upd H2 t (.tup [.ref e, .int 0]) t = some (.tup [.ref e, .int 0]) := upd_same
  generalize upd H2 t (.tup [.ref e, .int 0]) = H3 at *
  refine ⟨by show 1 ≤ sizeLine; decide, fun g0 ng0 => ?_⟩
  have s4 : Same H3 (upd H3 g0 (.lst [.ref t])) := Same.new ng0
  have hg0 : upd H3 g0 (.lst [.ref t]) g0 = some (.lst [.ref t]) := upd_same
  generalize upd H3 g0 (.lst [.ref t]) = H4 at *
  have hB0 : BgAt H4 g0 (bgn b.length m (cOfL (chT (Sx05.known l) b m)) 0) := ⟨[t], hg0, .cons ⟨e, s4 _ _ ht, (s3.trans s4) _ _ he⟩ .nil⟩
  have s14 := s2.trans (s3.trans s4)
  have s04 := s1.trans s14
  have hC4 := hC.same s14
  obtain ⟨ls, hD4, _⟩ := id hC4
  have lD : ls.length = b.length := by
    obtain ⟨ls', e1, e2⟩ := hC4
    rw [hD4] at e1
    have e3 : ls.map V.ref = ls'.map V.ref := HO.lst.inj (Option.some.inj e1)
    have e4 := congrArg List.length e3
    rw [List.length_map, List.length_map] at e4
    rw [e4, Paired.length e2, chT_len]
  refine ⟨_, rfl, D, _, rfl, .inl (.of hD4), _, rfl, ?_, ?_, ?_⟩
  · rw [List.length_map, lD]
    omega
  · rw [List.length_map, lD]
    omega
  have eN2 : (((ls.map V.ref).length : Nat) : Int).toNat = b.length := by rw [List.length_map, lD]; rfl
  rw [eN2]
  have hCb : ∀ L ∈ chT (Sx05.known l) b m, L.length ≤ 20 := fun L hL => by
    obtain ⟨i, _, rfl⟩ := List.mem_map.mp hL
    rw [List.length_take]
    omega
  refine for_it (walk_range (lo := 0) (n := b.length)) (fun t σ H' => ∃ (v4 : Option V) (g : Addr), σ = [some (.ref pt), some (ni m), some (.ref D), some (.ref g), v4, none, none, none] ∧ Same H4 H' ∧ BgAt H' g (bgn b.length m (cOfL (chT (Sx05.known l) b m)) t)) ?_ ?_ ?_ ?_
  · exact ⟨none, g0, rfl, fun _ _ e => e, hB0⟩
  · exact fun _ _ _ _ _ => trivial
  · rintro t v σ H5 H6 ht ⟨v4, g, rfl, s5, hB⟩ ⟨rfl, hv⟩
    have hbo := bgn_ok (n := b.length) (m := m) (C := cOfL (chT (Sx05.known l) b m)) (fun i c hc => chT_ok hk hc) t
    refine ⟨_, rfl, _, rfl, g, D, _, chT (Sx05.known l) b m, rfl, hB, hC4.same s5, bgn_len hm t, fun r hr => ?_, hCb, fun H7 q s7 nq hq => ?_⟩
    · obtain ⟨z1, z2⟩ := hbo r hr
      rw [chT_len]
      exact ⟨z1, by omega⟩
    rw [chT_len] at hq
    obtain ⟨rs, hq1, hq2⟩ := hq
    refine ⟨_, rfl, _, rfl, q, _, rfl, .of hq1, fun u nu => ?_⟩
    rw [cutV_takeN, ← List.map_take]
    have s8 : Same H7 (upd H7 u (.lst ((rs.take m).map V.ref))) := Same.new nu
    exact ⟨_, u, rfl, s5.trans (s7.trans s8), rs.take m, upd_same, Paired.mapP (paired_take m hq2) fun _ _ z => z.same s8⟩
  rintro σ H5 ⟨v4, g, rfl, s5, hB⟩
  obtain ⟨rs, hg, pr⟩ := hB
  obtain ⟨qs, pq, lq, hq⟩ := bg_lists pr
  rw [apart_told hk hw] at pq
  have lr := Paired.length pr
  have lb := bgn_len (n := b.length) (C := cOfL (chT (Sx05.known l) b m)) hm b.length
  refine ⟨_, rfl, g, rfl, ⟨_, .of hg⟩, fun U nU => ?_⟩
  have sU : ∀ {o}, Same H5 (upd H5 U o) := Same.new nU
  refine lc_it (walk_list (K := K) (a := g) (xs := rs.map V.ref)) (fun i H' => H' = upd H5 U (.lst ((qs.take i).map V.ref))) rfl ?_ ?_ ?_
  · rintro i H' hi rfl
    exact .of (sU _ _ hg)
  · rintro i v H6 H7 hi rfl ⟨rfl, hv⟩
    rw [List.getElem?_map] at hv
    obtain ⟨r, hr1, rfl⟩ := Option.map_eq_some_iff.mp hv
    obtain ⟨q, v2, hq1, hq2⟩ := hq i r hr1
    refine ⟨r, _, rfl, .of (sU _ _ hq2), rfl, _, _, rfl, _, _, rfl, rfl, rfl, yes_of ?_⟩
    refine ⟨_, rfl, _, upd_same, ?_, ?_⟩
    · rw [List.length_map, List.length_take, sizeLine_eq]
      omega
    · rw [upd_upd, take_map_succ hq1]
  rintro H6 rfl
  have eq : qs.take (rs.map V.ref).length = qs := List.take_of_length_le (by rw [List.length_map]; omega)
  rw [eq]
  exact k _ U qs (s04.trans (s5.trans sU)) ((s04.trans s5).free nU) upd_same (Paired.mapP pq fun _ _ z => sU _ _ z)
end
end G

end

section
set_option Elab.async false
set_option linter.all false
set_option maxRecDepth 100000
set_option maxHeartbeats 4000000
namespace G
open PySem PySem.Spec PyProof.Rows L2 GR
theorem ok_pieces {l : List Sx05.Item} (h : OkSt l) {p : Pie} (hp : p ∈ Sx05.allPieces l) : PcOk p := by
  unfold Sx05.allPieces at hp
  obtain ⟨x, hx, hp⟩ := List.mem_flatMap.mp hp
  obtain ⟨y, hy, hp⟩ := List.mem_flatMap.mp hp
  exact ((h.2 x hx).2 y hy).2 p hp
theorem known_ok {l : List Sx05.Item} (h : OkSt l) {p : Pie} (hp : p ∈ Sx05.known l) : PcOk p := ok_pieces h (List.mem_eraseDups.mp hp)
structure PtM (P : Program) (w : World) (K : PySem.W.Frag) (mg : Str → Option Value) (base : Heap) (A : Adr) : Prop where
  ex : ∃ (fI : Addr) (fd : FuncData), Mk K A.Parting fI ∧ FnOk P w K mg base CX0 3 fI fd ["self", "text", "word"] (spPartI A) ∧ Binds K fd ["self", "text", "word"] []
  gl : mg "Parting" = some (.ref A.Parting)
theorem cut_tail (m : Nat) (b : Bytes) : cutV (nis (m :: b)) (some 1) none = nis b := by
  have z := cutV_nis_end (m :: b) 1 (by rw [List.length_cons]; omega)
  exact z
theorem rows_le (U : List (List Nat)) : U.length ≤ (U.flatMap Sx05.listOut).length := by
  induction U with
  | nil => exact Nat.le_refl _
  | cons x U ih =>
    rw [List.flatMap_cons, List.length_append, listOut_eq, List.length_cons, List.length_cons]
    omega
theorem crow_flat (U : List (List Nat)) : (U.map fun b => cRow (nis b)).flatten = iis (U.flatMap Sx05.listOut) := by
  unfold iis
  rw [List.map_flatMap, ← List.flatMap_def]
  refine flat_ext fun b _ => ?_
  rw [listOut_eq, List.map_cons, List.map_map]
  unfold cRow
  rw [nis_length]
  rfl
section
variable {P : Program} {w : World} {K : PySem.W.Frag} {mg : Str → Option Value} {base : Heap} {A : Adr} {f1 f2 f3 f4 : Addr}
abbrev nAp : List Str := ["desk", "numbers", "most", "word", "parting", "row"]
theorem sc_apart : FnScope nAp ["desk", "numbers"] (defScope s_apart) := ⟨rfl, rfl, rfl, by decide +kernel, rfl, by decide +kernel, by decide +kernel⟩
theorem ok_apart {f : Addr} {fd : FuncData} (F : Fun K "apart" "apart" s_apart f fd) (T : TxT P w K mg base A) (B : DkT K A) (M : PtM P w K mg base A) (D1 : Def P w K mg base CX0 1 "amount_of_rows" f1 ["parting"] (spAmount A)) (D2 : Def P w K mg base CX0 1 "counted" f2 ["numbers"] spCounted) (D3 : Def P w K mg base CX0 1 "joined" f3 ["rows"] spJoined)
    (D4 : Def P w K mg base CX0 3 "first_rows" f4 ["parting", "most"] (spRows A)) (mLen : mg "len" = none) {t1 t20 t40 : Tok} (m1 : mg "OUT_OF_BOUNDS" = some (.int (-1) t1)) (m20 : mg "MOST_ROWS" = some (.int 20 t20)) (m40 : mg "MOST_WORD_BYTES" = some (.int 40 t40)) :
    FnOk P w K mg base CX0 5 f fd ["desk", "numbers"] (spDesk P w A (fun ns => .apart (ns.headD 0) ns.tail) fun ns => ∃ m b, ns = m :: b ∧ b.length ≤ 100) := by
  refine F.ok sc_apart (fun vs H Q E h => ?_) (fun cdv Ar outer s H vs Q E hr h => ?_)
  · obtain ⟨S, dk, nb, ns, l, rfl, _⟩ := h
    rfl
  obtain ⟨fI, fdI, MI, FI, bI⟩ := M.ex
  refine ⟨_, pss_cons (ps_set (i := 2) sc_apart.nd rfl (.inl rfl) (pe_ix ix_list (pv 1) pe_int (fun _ _ => rfl)))
    (pss_cons (ps_set (i := 3) sc_apart.nd rfl (.inl rfl) (pe_slice sl_list (pv 1) (po_some pe_int) po_none))
    (pss_cons (ps_if (pw_or (by exact (pt_cmpR op_gt (pv 2) (pe_glob (v := .int 20) rfl m20 ⟨_, rfl⟩) (nomark _))) (pw_or1 (by exact (pt_cmpR op_gt (pe_callB call_len_seq (by rfl) mLen PySem.boot_len (by exact (pa_cons (pv 3) pa_nil))) (pe_glob (v := .int 40) rfl m40 ⟨_, rfl⟩) (nomark _))))).pt
      (pss_one (ps_ret (pe_lst (by exact (pa_cons (pe_glob (v := .int (-1)) rfl m1 ⟨_, rfl⟩) pa_nil))))) pss_nil)
    (pss_cons (ps_set (i := 4) sc_apart.nd rfl (.inl rfl) (pe_make MI FI (hr.mono (by decide)) rfl M.gl bI .nil pass0 (by exact (pa_cons (pe_fld (pv 0) rfl) (pa_cons (pv 3) pa_nil)))))
    (pss_one (ps_ret (pe_op op_cat (pe_lst (by exact (pa_cons (pe_def D1 hr pass0 (pa_cons (pv 4) pa_nil)) pa_nil)))
      (pe_def D3 hr pass0 (pa_cons (pe_lc (own := [("row", 5)]) (g := gName 5) (tt := tYes) (te := teCall spCounted (tCons (tVar 5) tNil)) rfl sc_apart.nd (pi_list (pe_def D4 hr pass0 (pa_cons (pv 4) (pa_cons (pv 2) pa_nil)))) (blkOk_by (N := nAp) (sc := defScope s_apart) (by decide +kernel))
        (fun _ _ _ _ _ => pg_name (i := 5) sc_apart.nd rfl (Or.inl rfl)) (fun _ _ _ _ _ => pts_nil) (fun _ _ _ _ _ => by exact (pe_def D2 hr pass0 (pa_cons (pv 5) pa_nil)))) pa_nil)))))))), ?_⟩
  obtain ⟨S, dk, nb, ns, l, rfl, hSd, hS, hDk, hok, hnb, hpre, hsz, k⟩ := h
  obtain ⟨ddx, tx, hdk, hT⟩ := id hDk
  obtain ⟨dx, p, d, kp, kvs, X, e1, e2, e3, e4, e5, e6, e7, e8⟩ := hT.same Hd.sub
  obtain ⟨m, b, rfl, hb⟩ := hpre
  have hsz : (ansOf (Sx05.step l (.apart m b)).2).length ≤ 1000000 := hsz
  have stp : Sx05.step l (.apart m b) = (l, if 20 < m ∨ Sx05.LONG < b.length then Sx05.ok (-1) else ⟨Sx05.num (Sx05.ways (Sx05.known l) b), (Sx05.apart (Sx05.known l) b m).flatMap Sx05.listOut⟩) := rfl
  have k : ∀ (H' : Hp) (p : Addr), Same (Off H dk) (Off H' dk) → DeskAt P w A S H' dk l → H p = none → H' p = some (.lst (iis (ansOf (Sx05.step l (.apart m b)).2))) → Q (.ref p) H' := k
  rw [stp] at hsz k
  have lkk := Paired.length (tal_known e5)
  have hO : PtOk l b := ⟨hb, by omega, fun q hq => (known_ok hok hq).1⟩
  refine ⟨_, rfl, nb, _, _, _, rfl, rfl, .of hnb, atI_nat (j := 0) rfl, ?_⟩
  refine ⟨_, rfl, _, rfl, nb, _, rfl, .of hnb, fun wd nwd => ?_⟩
  have ect : cutV (nis (m :: b)) (some 1) none = nis b := cut_tail m b
  rw [ect]
  have s1 : Same H (upd H wd (.lst (nis b))) := Same.new nwd
  have hwd : upd H wd (.lst (nis b)) wd = some (.lst (nis b)) := upd_same
  generalize upd H wd (.lst (nis b)) = H1 at *
  -- out of bounds
  have bad : ∀ q, H1 q = none → (20 < m ∨ Sx05.LONG < b.length) → Q (.ref q) (upd H1 q (.lst [.int (-1)])) := fun q nq hc => by
    have s2 := s1.trans (Same.new (o := .lst [.int (-1)]) nq)
    refine k _ q (Off.mono s2) (hDk.same s2) (s1.free nq) ?_
    rw [upd_same, if_pos hc]
    rfl
  refine ⟨_, rfl, _, _, rfl, rfl, _, rfl, ?_⟩
  by_cases c1 : 20 < m
  · refine if_true_of (decide_eq_true (by omega)) ?_
    show if true = true then _ else _
    rw [if_pos rfl]
    exact ⟨by show 1 ≤ sizeLine; decide, fun q nq => bad q nq (.inl c1)⟩
  refine if_false_of (decide_eq_false (by omega)) ?_
  refine ⟨_, rfl, wd, _, rfl, .inl (.of hwd), _, _, rfl, rfl, _, rfl, ?_⟩
  rw [nis_length]
  by_cases c2 : 40 < b.length
  · refine if_true_of (decide_eq_true (by omega)) ?_
    exact ⟨by show 1 ≤ sizeLine; decide, fun q nq => bad q nq (.inr c2)⟩
  refine if_false_of (decide_eq_false (by omega)) ?_
  have hc : ¬ (20 < m ∨ Sx05.LONG < b.length) := fun z => z.elim c1 c2
  rw [if_neg hc] at hsz k
  clear bad
  have hsz : (Sx05.num (Sx05.ways (Sx05.known l) b) :: (Sx05.apart (Sx05.known l) b m).flatMap Sx05.listOut).length ≤ 1000000 := hsz
  rw [List.length_cons] at hsz
  -- the parting
  refine ⟨_, rfl, dk, A.Desk, ddx, _, _, rfl, s1 _ _ hdk, B.cl, B.n1, lk1, _, rfl, fun pt dxp npt ndx ne => ?_⟩
  have sR : Same H1 (upd (upd H1 dxp (.own pt)) pt (.ins A.Parting dxp [])) := Same.recH (C := A.Parting) (fs := []) npt ndx
  have hpt : upd (upd H1 dxp (.own pt)) pt (.ins A.Parting dxp []) pt = some (.ins A.Parting dxp []) := upd_same
  show spPartI A [.ref pt, .ref tx, .ref wd] (upd (upd H1 dxp (.own pt)) pt (.ins A.Parting dxp [])) _ _
  generalize upd (upd H1 dxp (.own pt)) pt (.ins A.Parting dxp []) = H2 at *
  have sO : Same H1 (Off H2 pt) := Off.old sR npt
  have hTx : TxPt A H1 tx l := ⟨dx, X.fs, X.ot, _, s1 _ _ e1, lkn (by decide +kernel) (lkn (by decide +kernel) (lkn (by decide +kernel) (lk3 (by decide +kernel) (by decide +kernel)))), lkn (by decide +kernel) (lkn (by decide +kernel) (lkn (by decide +kernel) (lkn (by decide +kernel) (lk3 (by decide +kernel) (by decide +kernel))))), e7.2.2.1.same s1, e7.2.2.2.same s1⟩
  refine ⟨pt, dxp, tx, wd, l, b, rfl, hpt, hTx.same sO, sO _ _ hwd, hb, hO.2.1, hO.2.2, fun H3 s3 hP => ⟨rfl, ?_⟩⟩
  have s13 : Same H1 H3 := sO.trans (s3.trans Off.same)
  refine ⟨_, rfl, pt, l, b, rfl, hP, by show 1 ≤ sizeLine; decide, fun n nn => ?_⟩
  have s4 : Same H3 (upd H3 n (.lst [ni (Sx05.ways (Sx05.known l) b)])) := Same.new nn
  have hn : upd H3 n (.lst [ni (Sx05.ways (Sx05.known l) b)]) n = some (.lst [ni (Sx05.ways (Sx05.known l) b)]) := upd_same
  generalize upd H3 n (.lst [ni (Sx05.ways (Sx05.known l) b)]) = H4 at *
  refine ⟨_, rfl, _, rfl, pt, l, b, m, rfl, hP.same s4, hO, by omega, fun H5 u qs s5 nu hu pq => ?_⟩
  have lq := Paired.length pq
  have hle := rows_le (Sx05.apart (Sx05.known l) b m)
  refine ⟨u, rfl, ⟨_, .of hu⟩, fun D nD => ?_⟩
  have sD : Same H5 (upd H5 D (.lst [])) := Same.new nD
  refine lc_it (walk_list (K := K) (a := u) (xs := qs.map V.ref)) (fun i H' => ∃ bs : List Addr, Same H5 H' ∧ H' D = some (.lst (bs.map V.ref)) ∧ Paired (fun b r => Off H' D b = some (.lst r)) bs (((Sx05.apart (Sx05.known l) b m).take i).map fun b => cRow (nis b))) ?_ ?_ ?_ ?_
  · exact ⟨[], sD, upd_same, by rw [List.take_zero]; exact .nil⟩
  · rintro i H' hi ⟨bs, s6, _⟩
    exact .of (s6 _ _ hu)
  · rintro i v H6 H7 hi ⟨bs, s6, hD, pb⟩ ⟨rfl, hv⟩
    rw [List.getElem?_map] at hv
    obtain ⟨q, hq1, rfl⟩ := Option.map_eq_some_iff.mp hv
    obtain ⟨r, hr1, hr2⟩ := paired_get pq hq1
    have hrl := flat_one hr1
    have lb := Paired.length pb
    rw [List.length_map, List.length_take] at lb
    refine ⟨rfl, yes_of ?_⟩
    refine ⟨_, rfl, q, _, rfl, s6 _ _ hr2, by rw [nis_length]; omega, fun H8 z s8 nz hz => ?_⟩
    have hzD : z ≠ D := fun y => by rw [y, hD] at nz; cases nz
    refine ⟨_, s8 _ _ hD, ?_, bs ++ [z], Same.put (s6.trans s8) nD, ?_, ?_⟩
    · rw [List.length_map, sizeLine_eq]
      omega
    · rw [upd_same, List.map_append]
      rfl
    · rw [Off.upd, List.take_add_one, hr1, List.map_append]
      refine paired_snoc (Paired.mapP pb fun _ _ y => Off.mono s8 _ _ y) ?_
      rw [Off.ne hzD]
      exact hz
  rintro H6 ⟨bs, s6, hD, pb⟩
  rw [List.length_map, lq, List.take_length] at pb
  have efl := crow_flat (Sx05.apart (Sx05.known l) b m)
  have hfl : (iis ((Sx05.apart (Sx05.known l) b m).flatMap Sx05.listOut)).length ≤ 1000000 := by
    unfold iis
    rw [List.length_map]
    omega
  refine ⟨D, bs, _, rfl, hD, Paired.mapP pb fun _ _ z => Off.same _ _ z, by rw [efl]; omega, fun H7 j s7 nj hj => ?_⟩
  rw [efl] at hj
  have s47 := s5.trans (s6.trans s7)
  refine ⟨n, j, _, _, rfl, rfl, s47 _ _ hn, hj, ?_, fun r nr => ?_⟩
  · rw [List.length_cons, List.length_nil, sizeLine_eq]
    omega
  have s07 := s1.trans (s13.trans (s4.trans s47))
  have s08 := s07.trans (Same.new (o := .lst ([ni (Sx05.ways (Sx05.known l) b)] ++ iis ((Sx05.apart (Sx05.known l) b m).flatMap Sx05.listOut))) nr)
  refine k _ r (Off.mono s08) (hDk.same s08) (s07.free nr) ?_
  rw [upd_same]
  rfl
end
end G

end

section
set_option Elab.async false
set_option linter.all false
set_option maxRecDepth 100000
set_option maxHeartbeats 4000000
namespace G
open PySem PySem.Spec PyProof.Rows L2 GR
/-! ### the numbers of a call, taken one by one -/
abbrev srcO (A : Adr) (dx nb : Addr) (i : Nat) : HO := .ins A.Source dx [("numbers", .ref nb), ("at", ni i)]
/-- a method -/
structure MDef (P : Program) (w : World) (K : PySem.W.Frag) (mg : Str → Option Value) (base : Heap) (CX : CXT) (k : Nat) (m : Str) (C f : Addr) (ps : List Str) (sp : Sp) : Prop where
  mt : Meth K C m f
  ex : ∃ fd : FuncData, FnOk P w K mg base CX k f fd ps sp ∧ Binds K fd ps []
/-- BadSteps -/
structure BadT (K : PySem.W.Frag) (mg : Str → Option Value) (C : Addr) : Prop where
  gl : mg "BadSteps" = some (.ref C)
  xc : PySem.W.excIn K C [.type "Exception", .type "BaseException", .type "object"] "Exception.__new__" = true
  kc : PySem.W.keepIn K (.ref C) = true
  bc : PySem.W.subIn K (.ref C) (.type "BaseException") = some true
  tc : PySem.W.typeIn K (.ref C) = some (.type "type")
  te : PySem.W.exmOne K (.ref C) (.ref C) = some true
structure SrT (K : PySem.W.Frag) (A : Adr) : Prop where
  cl : Cls K A.Source
  n1 : NoAttr K A.Source "numbers"
  n2 : NoAttr K A.Source "at"
def spTake (A : Adr) : Sp := fun vs H Q _ => ∃ (s dx nb : Addr) (i n : Nat) (ns : Bytes), vs = [.ref s] ∧ H s = some (srcO A dx nb i) ∧ H nb = some (.lst (nis ns)) ∧ ns[i]? = some n ∧ Q (ni n) (upd H s (srcO A dx nb (i + 1)))
def spTakeUp (A : Adr) : Sp := fun vs H Q E => ∃ (s dx nb : Addr) (i n m : Nat) (ns : Bytes), vs = [.ref s, ni m] ∧ H s = some (srcO A dx nb i) ∧ H nb = some (.lst (nis ns)) ∧ ns[i]? = some n ∧
  (n ≤ m → Q (ni n) (upd H s (srcO A dx nb (i + 1)))) ∧ (m < n → E (.ref A.BadSteps) none (upd H s (srcO A dx nb (i + 1))))
def spTakeC (A : Adr) : Sp := fun vs H Q _ => ∃ (s dx nb : Addr) (i c : Nat) (ns : Bytes), vs = [.ref s] ∧ H s = some (srcO A dx nb i) ∧ H nb = some (.lst (nis ns)) ∧ ns[i]? = some c ∧ i + 1 + c ≤ ns.length ∧
  ∀ H' t, Same (Off H s) (Off H' s) → H' s = some (srcO A dx nb (i + 1 + c)) → H t = none → H' t = some (.tup (nis ((ns.drop (i + 1)).take c))) → Q (.ref t) H'
theorem putF_at (nb : Addr) (u z : V) : putF "at" z [(("numbers" : Str), V.ref nb), ("at", u)] = [(("numbers" : Str), V.ref nb), ("at", z)] := by
  rw [putFn _ _ (by decide +kernel)]
  have e : putF "at" z [(("at" : Str), u)] = [(("at" : Str), z)] := if_pos rfl
  rw [e]
section
variable {P : Program} {w : World} {K : PySem.W.Frag} {mg : Str → Option Value} {base : Heap} {A : Adr} {f1 f2 f3 f4 : Addr}
theorem sc_take : FnScope ["self"] ["self"] (defScope s_take) := ⟨rfl, rfl, rfl, by decide +kernel, rfl, by decide +kernel, by decide +kernel⟩
theorem ok_take {f : Addr} {fd : FuncData} (F : Fun K "take" "Source.take" s_take f fd) (T : SrT K A) : FnOk P w K mg base CX0 1 f fd ["self"] (spTake A) := by
  refine F.ok sc_take (fun vs H Q E h => ?_) (fun cdv Ar outer s H vs Q E hr h => ?_)
  · obtain ⟨s, dx, nb, i, n, ns, rfl, _⟩ := h
    rfl
  refine ⟨_, pss_cons (ps_fldaug (pv 0) pe_int in_add) (pss_one (ps_ret (pe_ix ix_list (pe_fld (pv 0) rfl) (pe_op op_sub (pe_fld (pv 0) rfl) pe_int) (fun _ _ => rfl)))), ?_⟩
  obtain ⟨s, dx, nb, i, n, ns, rfl, hs, hnb, hn, q⟩ := h
  have hne : nb ≠ s := fun z => by rw [z, hs] at hnb; cases hnb
  refine ⟨_, rfl, s, A.Source, dx, _, _, rfl, hs, T.cl, T.n2, lk2 (by decide +kernel), _, _, rfl, rfl, dx, _, hs, (by show 2 < 1000; decide), ?_⟩
  rw [putF_at]
  refine ⟨_, rfl, s, A.Source, dx, _, _, rfl, upd_same, T.cl, T.n1, lk1, _, rfl, s, A.Source, dx, _, _, rfl, upd_same, T.cl, T.n2, lk2 (by decide +kernel), _, _, rfl, rfl, nb, nis ns, _, ni n, rfl, rfl, .of ?_, ?_, q⟩
  · rw [upd_ne hne]
    exact hnb
  · have hat : (nis ns)[i]? = some (ni n) := by unfold nis; rw [List.getElem?_map, hn]; rfl
    have e : (i : Int) + 1 - 1 = (i : Int) := by omega
    rw [e]
    exact atI_nat hat
theorem sc_take_up_to : FnScope ["self", "most", "number"] ["self", "most"] (defScope s_take_up_to) := ⟨rfl, rfl, rfl, by decide +kernel, rfl, by decide +kernel, by decide +kernel⟩
theorem ok_take_up_to {f : Addr} {fd : FuncData} (F : Fun K "take_up_to" "Source.take_up_to" s_take_up_to f fd) (T : SrT K A) (B : BadT K mg A.BadSteps) (M1 : MDef P w K mg base CX0 1 "take" A.Source f1 ["self"] (spTake A)) : FnOk P w K mg base (L2.CX P w) 2 f fd ["self", "most"] (spTakeUp A) := by
  refine F.okX sc_take_up_to (fun vs H Q E h => ?_) (fun cdv Ar outer s H vs Q E hr h => ?_)
  · obtain ⟨s, dx, nb, i, n, m, ns, rfl, _⟩ := h
    rfl
  obtain ⟨fd1, F1, b1⟩ := M1.ex
  refine ⟨_, pss_cons (ps_set (i := 2) sc_take_up_to.nd rfl (.inl rfl) (pe_meth0 (pv 0) T.cl M1.mt F1 hr b1 .nil pass0))
    (pss_cons (ps_if (pt_cmpR op_gt (pv 2) (pv 1) (nomark _)) (pss_one (ps_raise rfl (takes_of rfl rfl rfl rfl) (pmk_own0 PySem.F.excBase_Exception B.xc B.gl B.kc (raises_own B.bc B.tc) rfl))) pss_nil)
    (pss_one (ps_ret (pv 2)))), ?_⟩
  obtain ⟨s, dx, nb, i, n, m, ns, rfl, hs, hnb, hn, k1, k2⟩ := h
  refine ⟨_, rfl, s, dx, _, rfl, hs, rfl, s, dx, nb, i, n, ns, rfl, hs, hnb, hn, ?_⟩
  refine ⟨_, rfl, _, rfl, _, _, rfl, rfl, _, rfl, ?_⟩
  by_cases hc : m < n
  · refine if_true_of (decide_eq_true (by omega)) ?_
    exact k2 hc
  · refine if_false_of (decide_eq_false (by omega)) ?_
    exact ⟨_, rfl, k1 (by omega)⟩
theorem sc_take_counted : FnScope ["self", "amount"] ["self"] (defScope s_take_counted) := ⟨rfl, rfl, rfl, by decide +kernel, rfl, by decide +kernel, by decide +kernel⟩
theorem ok_take_counted {f : Addr} {fd : FuncData} (F : Fun K "take_counted" "Source.take_counted" s_take_counted f fd) (T : SrT K A) (M1 : MDef P w K mg base CX0 1 "take" A.Source f1 ["self"] (spTake A)) (mT : mg "tuple" = none) : FnOk P w K mg base CX0 2 f fd ["self"] (spTakeC A) := by
  refine F.ok sc_take_counted (fun vs H Q E h => ?_) (fun cdv Ar outer s H vs Q E hr h => ?_)
  · obtain ⟨s, dx, nb, i, c, ns, rfl, _⟩ := h
    rfl
  obtain ⟨fd1, F1, b1⟩ := M1.ex
  refine ⟨_, pss_cons (ps_set (i := 1) sc_take_counted.nd rfl (.inl rfl) (pe_meth0 (pv 0) T.cl M1.mt F1 hr b1 .nil pass0))
    (pss_cons (ps_fldaug (pv 0) (pv 1) in_add)
    (pss_one (ps_ret (pe_callTy call_tuple_of (by rfl) mT (by decide +kernel) (by exact (pa_cons (pe_slice sl_list (pe_fld (pv 0) rfl) (po_some (pe_op op_sub (pe_fld (pv 0) rfl) (pv 1))) (po_some (pe_fld (pv 0) rfl))) pa_nil)))))), ?_⟩
  obtain ⟨s, dx, nb, i, c, ns, rfl, hs, hnb, hc, hl, k⟩ := h
  have hne : nb ≠ s := fun z => by rw [z, hs] at hnb; cases hnb
  refine ⟨_, rfl, s, dx, _, rfl, hs, rfl, s, dx, nb, i, c, ns, rfl, hs, hnb, hc, ?_⟩
  refine ⟨_, rfl, s, A.Source, dx, _, _, rfl, upd_same, T.cl, T.n2, lk2 (by decide +kernel), _, rfl, _, _, rfl, rfl, dx, _, upd_same, (by show 2 < 1000; decide), ?_⟩
  rw [putF_at, upd_upd]
  have hs2 : upd H s (.ins A.Source dx [("numbers", .ref nb), ("at", .int (((i + 1 : Nat) : Int) + (c : Int)))]) s = some (srcO A dx nb (i + 1 + c)) := upd_same
  have sO : Off (upd H s (.ins A.Source dx [("numbers", .ref nb), ("at", .int (((i + 1 : Nat) : Int) + (c : Int)))])) s = Off H s := Off.upd
  have hnb2 : upd H s (.ins A.Source dx [("numbers", .ref nb), ("at", .int (((i + 1 : Nat) : Int) + (c : Int)))]) nb = some (.lst (nis ns)) := by
    rw [upd_ne hne]
    exact hnb
  have fr : ∀ b, upd H s (.ins A.Source dx [("numbers", .ref nb), ("at", .int (((i + 1 : Nat) : Int) + (c : Int)))]) b = none → H b = none := fun b e => by
    by_cases hb : b = s
    · rw [hb, upd_same] at e
      cases e
    · rw [upd_ne hb] at e
      exact e
  generalize upd H s (.ins A.Source dx [("numbers", .ref nb), ("at", .int (((i + 1 : Nat) : Int) + (c : Int)))]) = H1 at *
  refine ⟨_, rfl, s, A.Source, dx, _, _, rfl, hs2, T.cl, T.n1, lk1, _, rfl, s, A.Source, dx, _, _, rfl, hs2, T.cl, T.n2, lk2 (by decide +kernel), _, rfl, _, _, rfl, rfl, _, rfl, _, rfl, s, A.Source, dx, _, _, rfl, hs2, T.cl, T.n2, lk2 (by decide +kernel), _, rfl, nb, _, rfl, .of hnb2, fun q nq => ?_⟩
  have e1 : (((i + 1 + c : Nat) : Int)) - (c : Int) = ((i + 1 : Nat) : Int) := by omega
  have ec : cutV (nis ns) (some (((i + 1 + c : Nat) : Int) - (c : Int))) (some ((i + 1 + c : Nat) : Int)) = nis ((ns.drop (i + 1)).take c) := by
    rw [e1, cutV_nis _ _ _ (by omega) hl, List.drop_take, show i + 1 + c - (i + 1) = c by omega]
  rw [ec]
  have s2 : Same H1 (upd H1 q (.lst (nis ((ns.drop (i + 1)).take c)))) := Same.new nq
  have hq : upd H1 q (.lst (nis ((ns.drop (i + 1)).take c))) q = some (.lst (nis ((ns.drop (i + 1)).take c))) := upd_same
  show tNil _ (upd H1 q (.lst (nis ((ns.drop (i + 1)).take c)))) _
  generalize upd H1 q (.lst (nis ((ns.drop (i + 1)).take c))) = H2 at *
  refine ⟨q, _, rfl, .inl ⟨.of hq, fun t nt => ?_⟩⟩
  have s3 : Same H2 (upd H2 t (.tup (nis ((ns.drop (i + 1)).take c)))) := Same.new nt
  have s13 := s2.trans s3
  refine k _ t ?_ (s13 _ _ hs2) (fr t (s2.free nt)) upd_same
  rw [← sO]
  exact Off.mono s13
end
end G

end

section
set_option Elab.async false
set_option linter.all false
set_option maxRecDepth 100000
set_option maxHeartbeats 4000000
namespace G
open PySem PySem.Spec PyProof.Rows L2 GR
/-! ### the calls of a line -/
def toI (l : Bytes) : List Int := l.map fun n : Nat => (n : Int)
theorem nats_toI : ∀ l : Bytes, Sx05Neutral.nats (toI l) = l
  | [] => rfl
  | n :: r => by
    have ih := nats_toI r
    show Int.toNat (n : Int) :: Sx05Neutral.nats (toI r) = _
    rw [ih]
    rfl
/-- the call of a place and numbers -/
def cOf (p : Nat) (ns : Bytes) : Sx05.Call := (Sx05Neutral.callOf ((p : Int) :: toI ns)).getD .begins
def preOf (p : Nat) (ns : Bytes) : Prop := (∃ x, Sx05Neutral.callOf ((p : Int) :: toI ns) = some x) ∧ Sx05Neutral.asked1 ((p : Int) :: toI ns) = true
theorem step_is {p : Nat} {ns : Bytes} (h : preOf p ns) (s : List Sx05.Item) : Sx05Neutral.step s [((p : Int) :: toI ns)] = ((Sx05.step s (cOf p ns)).1, ansOf (Sx05.step s (cOf p ns)).2) := by
  obtain ⟨⟨x, hx⟩, _⟩ := h
  unfold Sx05Neutral.step cOf
  simp only [List.headD_cons, hx]
  rfl
/-- a row of calls, told flat -/
inductive Line : Bytes → List (Nat × Bytes) → Prop
  | nil : Line [] []
  | cons {p : Nat} {ns r : Bytes} {cs : List (Nat × Bytes)} : p < 11 → preOf p ns → Line r cs → Line (p :: ns.length :: (ns ++ 0 :: r)) ((p, ns) :: cs)
def playS : List Sx05.Item → List (Nat × Bytes) → List (List Int)
  | _, [] => []
  | s, c :: r => ansOf (Sx05.step s (cOf c.1 c.2)).2 :: playS (Sx05.step s (cOf c.1 c.2)).1 r
def toldOf (l : List (List Int)) : List Int := l.flatMap fun a => (a.length : Int) :: a
theorem Line.len {l : Bytes} {cs : List (Nat × Bytes)} (h : Line l cs) : 3 * cs.length ≤ l.length := by
  induction h with
  | nil => exact Nat.le_refl _
  | cons _ _ _ ih =>
    simp only [List.length_cons, List.length_append]
    omega
def sumL (l : List (List Int)) : Nat := (l.map List.length).sum
theorem told_len (l : List (List Int)) : (toldOf l).length = sumL l + l.length := by
  induction l with
  | nil => rfl
  | cons a r ih =>
    show (((a.length : Int) :: a) ++ toldOf r).length = ((a :: r).map List.length).sum + _
    rw [List.length_append, ih, List.map_cons, List.sum_cons, List.length_cons, List.length_cons]
    unfold sumL
    omega
theorem playS_len : ∀ (cs : List (Nat × Bytes)) (s : List Sx05.Item), (playS s cs).length = cs.length
  | [], _ => rfl
  | c :: r, s => by
    show (playS _ r).length + 1 = r.length + 1
    rw [playS_len r]
def spAns (K : PySem.W.Frag) : Sp := fun vs H Q _ => ∃ (a : Addr) (l : Bytes) (cs : List (Nat × Bytes)), vs = [.ref a] ∧ SqL K H a (nis l) ∧ Line l cs ∧ l.length ≤ 30000 ∧ sumL (playS [] cs) < 1000000 ∧
  ∀ H' p, Same H H' → H' p = some (.lst (iis (toldOf (playS [] cs)))) → Q (.ref p) H'
structure DkM (P : Program) (w : World) (K : PySem.W.Frag) (mg : Str → Option Value) (base : Heap) (A : Adr) : Prop where
  ex : ∃ (fI : Addr) (fd : FuncData), Mk K A.Desk fI ∧ FnOk P w K mg base CX0 9 fI fd ["self"] (spDeskI P w A) ∧ Binds K fd ["self"] []
  gl : mg "Desk" = some (.ref A.Desk)
/-- the table of the calls -/
structure CallsT (P : Program) (w : World) (K : PySem.W.Frag) (mg : Str → Option Value) (base : Heap) (A : Adr) (aC : Addr) : Prop where
  gl : mg "CALLS" = some (.ref aC)
  ex : ∃ fs : List Addr, (∀ H : Hp, SqT K H aC (fs.map V.ref)) ∧ ∀ p, p < 11 → ∃ f, fs[p]? = some f ∧ Held P w K mg base 10 f (spDesk P w A (cOf p) (preOf p))
theorem drop_at {l : Bytes} {i : Nat} {p n : Nat} {r : Bytes} (h : l.drop i = p :: n :: r) : l[i]? = some p ∧ l[i + 1]? = some n ∧ l.drop (i + 2) = r := by
  have g : ∀ j, (l.drop i)[j]? = l[i + j]? := fun j => List.getElem?_drop
  refine ⟨?_, ?_, ?_⟩
  · have := g 0
    rw [h] at this
    exact this.symm
  · have := g 1
    rw [h] at this
    exact this.symm
  · have z : (l.drop i).drop 2 = l.drop (i + 2) := by rw [List.drop_drop]
    rw [← z, h]
    rfl
theorem cut_ns {l ns r : Bytes} {i : Nat} (h : l.drop (i + 2) = ns ++ 0 :: r) : cutV (nis l) (some ((i + 2 : Nat) : Int)) (some ((i + 2 + ns.length : Nat) : Int)) = nis ns := by
  have hl := congrArg List.length h
  rw [List.length_drop, List.length_append, List.length_cons] at hl
  rw [cutV_nis _ _ _ (by omega) (by omega)]
  congr 1
  rw [List.drop_take, h, show i + 2 + ns.length - (i + 2) = ns.length by omega, List.take_left']
  rfl
theorem SqL.same' {K : PySem.W.Frag} {H H' : Hp} (s : Same H H') {a : Addr} {xs : List V} (h : SqL K H a xs) : SqL K H' a xs := by
  rcases h with (h | ⟨o, h⟩) | h
  · exact .inl (.inl (s _ _ h))
  · exact .inl (.inr ⟨o, s _ _ h⟩)
  · exact .inr h
section
variable {P : Program} {w : World} {K : PySem.W.Frag} {mg : Str → Option Value} {base : Heap} {A : Adr} {f1 aC : Addr}
theorem sc_answers : FnScope ["calls", "desk", "told", "at", "amount", "numbers", "answer"] ["calls"] (defScope s_answers) := ⟨rfl, rfl, rfl, by decide +kernel, rfl, by decide +kernel, by decide +kernel⟩
theorem ok_answers {f : Addr} {fd : FuncData} (F : Fun K "answers" "answers" s_answers f fd) (M : DkM P w K mg base A) (C : CallsT P w K mg base A aC) (D1 : Def P w K mg base CX0 1 "counted" f1 ["numbers"] spCounted) (mLen : mg "len" = none) :
    FnOk P w K mg base CX0 12 f fd ["calls"] (spAns K) := by
  refine F.ok sc_answers (fun vs H Q E h => ?_) (fun cdv Ar outer s H vs Q E hr h => ?_)
  · obtain ⟨a, l, cs, rfl, _⟩ := h
    rfl
  obtain ⟨fI, fdI, MI, FI, bI⟩ := M.ex
  obtain ⟨fs, hfs, htab⟩ := C.ex
  let S : Addr → Sp → Prop := fun f sp => ∃ p, p < 11 ∧ fs[p]? = some f ∧ sp = spDesk P w A (cOf p) (preOf p)
  have hS : ∀ f sp, S f sp → Held P w K mg base 10 f sp := by
    rintro f sp ⟨p, hp, hf, rfl⟩
    obtain ⟨f', hf', hh⟩ := htab p hp
    rw [hf] at hf'
    cases hf'
    exact hh
  refine ⟨_, pss_cons (ps_set (i := 1) sc_answers.nd rfl (.inl rfl) (pe_make0 MI FI (hr.mono (by decide)) rfl M.gl bI .nil pass0))
    (pss_cons (ps_set (i := 2) sc_answers.nd rfl (.inl rfl) (pe_lst pa_nil))
    (pss_cons (ps_set (i := 3) sc_answers.nd rfl (.inl rfl) pe_int)
    (pss_cons (ps_while PassesOwn.never (pt_cmpR op_lt (pv 3) (pe_callB call_len_seq (by rfl) mLen PySem.boot_len (by exact (pa_cons (pv 0) pa_nil))) (nomark _))
      (pss_cons (ps_set (i := 4) sc_answers.nd rfl (.inl rfl) (pe_ix ix_list (pv 0) (pe_op op_add (pv 3) pe_int) (fun _ _ => rfl)))
      (pss_cons (ps_set (i := 5) sc_answers.nd rfl (.inl rfl) (pe_slice sl_list (pv 0) (po_some (pe_op op_add (pv 3) pe_int)) (po_some (pe_op op_add (pe_op op_add (pv 3) pe_int) (pv 4)))))
      (pss_cons (ps_set (i := 6) sc_answers.nd rfl (.inl rfl) (pe_callF (S := S) hS (hr.mono (by decide)) (pe_ix ix_tup (pe_glob (v := .ref aC) rfl C.gl rfl) (pe_ix ix_list (pv 0) (pv 3) (fun _ _ => rfl)) (fun _ _ => rfl)) (by exact (pa_cons (pv 1) (pa_cons (pv 5) pa_nil)))))
      (pss_cons (ps_expr (pe_bm PySem.F.plainAttrs_list PySem.F.slot_list_extend PySem.F.type_list_extend mt_extend (pv 2) (pa_cons (pe_def D1 hr pass0 (pa_cons (pv 6) pa_nil)) pa_nil)))
      (pss_one (ps_aug (i := 3) sc_answers.nd rfl (.inl rfl) (pe_op op_add (pv 4) pe_int) in_add)))))))
    (pss_one (ps_ret (pv 2)))))), ?_⟩
  obtain ⟨a, l, cs, rfl, ha, hline, hlen, hsum, k⟩ := h
  intro dk ddx nd1 nd2 ne
  refine ⟨dk, ddx, rfl, upd_same, fun H1 tx s1 hdk hT => ⟨rfl, ?_⟩⟩
  have s01 : Same H (Off H1 dk) := fun b o z => by
    have hb : b ≠ dk := fun y => by rw [y, nd1] at z; cases z
    have hb2 : b ≠ ddx := fun y => by rw [y, nd2] at z; cases z
    exact s1 b o (by rw [Off.ne hb, upd_ne hb, upd_ne hb2]; exact z)
  refine ⟨Nat.zero_le _, fun told nt => ?_⟩
  have ntd : told ≠ dk := fun z => by rw [z, hdk] at nt; cases nt
  have s2 : Same H1 (upd H1 told (.lst [])) := Same.new nt
  have ft : H told = none := Off.free s01 nt
  let Z : Addr → Prop := fun b => b = dk ∨ b = told
  have hT2 : TextAt P w A (Hd Z (upd H1 told (.lst []))) tx [] := by
    refine hT.same fun b o y => ?_
    obtain ⟨g1, g2⟩ := New.inv y
    have hb : b ≠ dk := fun q => by rw [q, upd_same] at g1; cases g1
    have hb2 : b ≠ told := fun q => by rw [q, nt] at g2; cases g2
    rw [Hd.at (by rintro (q | q); exact hb q; exact hb2 q), upd_ne hb2]
    exact g2
  -- the loop
  refine ⟨fun m σ H' => ∃ (i : Nat) (st : List Sx05.Item) (done : List (List Int)) (cs' : List (Nat × Bytes)) (v4 v5 v6 : Option V), m = l.length - i ∧ σ = [some (.ref a), some (.ref dk), some (.ref told), some (ni i), v4, v5, v6] ∧
      Same H (Off (Off H' dk) told) ∧ H' told = some (.lst (iis (toldOf done))) ∧ DeskAt P w A Z H' dk st ∧ OkSt st ∧ i ≤ l.length ∧ Line (l.drop i) cs' ∧ playS [] cs = done ++ playS st cs',
    ⟨_, 0, [], [], cs, none, none, none, rfl, rfl, ?_, upd_same, ⟨ddx, tx, by rw [upd_ne (Ne.symm ntd)]; exact hdk, hT2⟩, okSt_nil, Nat.zero_le _, hline, rfl⟩, ?_⟩
  · intro b o z
    have hb : b ≠ told := fun y => by rw [y, ft] at z; cases z
    have z1 := s01 b o z
    have hb2 : b ≠ dk := fun y => by rw [y, Off.at] at z1; cases z1
    rw [Off.ne hb, Off.ne hb2, upd_ne hb]
    rw [Off.ne hb2] at z1
    exact z1
  rintro m σ H2 ⟨i, st, done, cs', v4, v5, v6, rfl, rfl, s3, ht, hD, hok, hi, hL, hpl⟩
  have s03 : Same H H2 := s3.trans (Off.same.trans Off.same)
  have ha2 : SqL K H2 a (nis l) := SqL.same' s03 ha
  refine ⟨_, rfl, _, rfl, a, _, rfl, .inl ha2, _, _, rfl, rfl, _, rfl, ?_⟩
  rw [nis_length]
  cases hL' : l.drop i with
  | nil =>
    rw [hL'] at hL
    cases hL
    have hl : l.length ≤ i := List.drop_eq_nil_iff.mp hL'
    refine if_false_of (decide_eq_false (by omega)) ?_
    refine ⟨_, rfl, k _ told s03 ?_⟩
    rw [ht, hpl]
    show _ = some (HO.lst (iis (toldOf (done ++ []))))
    rw [List.append_nil]
  | cons p0 r0 =>
  rw [hL'] at hL
  cases hL with
  | @cons _ ns r cs2 hp hpre hrest =>
  obtain ⟨gp, gn, gr⟩ := drop_at hL'
  have hlt : i < l.length := (List.getElem?_eq_some_iff.mp gp).1
  have hlr := congrArg List.length gr
  rw [List.length_drop, List.length_append, List.length_cons] at hlr
  refine if_true_of (decide_eq_true (by omega)) ?_
  refine ⟨fun σ' H' => ∃ m', m' < l.length - i ∧ _, fun σ' H' z => z, ?_⟩
  have np : (nis l)[i]? = some (ni p0) := by unfold nis; rw [List.getElem?_map, gp]; rfl
  have nn : (nis l)[i + 1]? = some (ni ns.length) := by unfold nis; rw [List.getElem?_map, gn]; rfl
  refine ⟨_, rfl, _, rfl, _, _, rfl, rfl, a, _, _, _, rfl, rfl, ha2, atI_nat (j := i + 1) nn, ?_⟩
  refine ⟨_, rfl, _, rfl, _, _, rfl, rfl, _, rfl, _, rfl, _, _, rfl, rfl, _, rfl, _, _, rfl, rfl, _, rfl, a, _, rfl, ha2, fun nb nnb => ?_⟩
  have ecut : cutV (nis l) (some ((i : Int) + 2)) (some ((i : Int) + 2 + (ns.length : Int))) = nis ns := cut_ns gr
  rw [ecut]
  have s34 : Same H2 (upd H2 nb (.lst (nis ns))) := Same.new nnb
  have hnb : upd H2 nb (.lst (nis ns)) nb = some (.lst (nis ns)) := upd_same
  have ha3 : SqL K (upd H2 nb (.lst (nis ns))) a (nis l) := SqL.same' s34 ha2
  have ht3 := s34 _ _ ht
  have hD3 := hD.same s34
  have s3' := s3.trans (Off.mono (p := told) (Off.mono (p := dk) s34))
  have nbt : nb ≠ told := fun z => by rw [z, ht] at nnb; cases nnb
  generalize upd H2 nb (.lst (nis ns)) = H3 at *
  obtain ⟨fp, hfp, _⟩ := htab p0 hp
  have hfv : (fs.map V.ref)[p0]? = some (.ref fp) := by rw [List.getElem?_map, hfp]; rfl
  have hst : playS st ((p0, ns) :: cs2) = ansOf (Sx05.step st (cOf p0 ns)).2 :: playS (Sx05.step st (cOf p0 ns)).1 cs2 := rfl
  rw [hst] at hpl
  have hsz : sumL done + ((ansOf (Sx05.step st (cOf p0 ns)).2).length + sumL (playS (Sx05.step st (cOf p0 ns)).1 cs2)) < 1000000 := by
    rw [hpl] at hsum
    unfold sumL at hsum ⊢
    rw [List.map_append, List.sum_append, List.map_cons, List.sum_cons] at hsum
    exact hsum
  have hdn : done.length ≤ 30000 := by
    have h1 := playS_len cs []
    have h2 := hline.len
    rw [hpl, List.length_append] at h1
    omega
  refine ⟨_, rfl, _, rfl, a, _, _, _, rfl, rfl, ha3, atI_nat np, aC, _, _, _, rfl, rfl, hfs _, atI_nat hfv, fp, _, rfl, ⟨p0, hp, hfp, rfl⟩, ?_⟩
  refine ⟨_, rfl, _, rfl, Z, dk, nb, ns, st, rfl, .inl rfl, ?_, hD3, hok, hnb, hpre, by omega, fun H4 q s4 hD4 nq hq => ?_⟩
  · rintro b (rfl | rfl)
    · obtain ⟨_, _, e, _⟩ := hD3
      rw [e]
      exact fun z => by cases z
    · rw [ht3]
      exact fun z => by cases z
  have ht4 : H4 told = some (.lst (iis (toldOf done))) := Off.same _ _ (s4 _ _ (by rw [Off.ne ntd]; exact ht3))
  refine ⟨_, rfl, .inl ⟨rfl, _, .of ht4⟩, _, rfl, q, _, rfl, hq, ?_, fun H5 c s5 nc hc => ?_⟩
  · unfold iis
    rw [List.length_map]
    omega
  have ht5 := s5 _ _ ht4
  refine ⟨told, c, _, _, rfl, rfl, ht5, hc, ?_, ?_⟩
  · unfold iis
    rw [List.length_map, told_len, List.length_cons, List.length_map, sizeLine_eq]
    omega
  refine ⟨_, rfl, _, rfl, _, _, rfl, rfl, _, _, rfl, rfl, ?_⟩
  have dn2 : toldOf (done ++ [ansOf (Sx05.step st (cOf p0 ns)).2]) = toldOf done ++ (((ansOf (Sx05.step st (cOf p0 ns)).2).length : Int) :: ansOf (Sx05.step st (cOf p0 ns)).2) := by
    unfold toldOf
    rw [List.flatMap_append]
    simp only [List.flatMap_cons, List.flatMap_nil, List.append_nil]
  have s35 : Same (Off H3 dk) (Off H5 dk) := s4.trans (Off.mono s5)
  refine ⟨l.length - (i + (ns.length + 3)), by omega, i + (ns.length + 3), (Sx05.step st (cOf p0 ns)).1, done ++ [ansOf (Sx05.step st (cOf p0 ns)).2], cs2, _, _, _, rfl, rfl, ?_, ?_, ?_, step_ok hok _, by omega, ?_, ?_⟩
  · have z := s3'.trans (Off.mono (p := told) s35)
    intro b o y
    have hb : b ≠ told := fun q => by rw [q, ft] at y; cases y
    have y2 := z b o y
    rw [Off.ne hb] at y2 ⊢
    have hb2 : b ≠ dk := fun q => by rw [q, Off.at] at y2; cases y2
    rw [Off.ne hb2] at y2 ⊢
    rw [upd_ne hb]
    exact y2
  · rw [upd_same, dn2]
    unfold iis
    rw [List.map_append, List.length_map]
    rfl
  · obtain ⟨ddx', tx', e1, e2⟩ := hD4
    refine ⟨ddx', tx', ?_, e2.same fun b o y => ?_⟩
    · rw [upd_ne (Ne.symm ntd)]
      exact s5 _ _ e1
    · obtain ⟨g1, g2⟩ := Hd.inv y
      have hb : b ≠ told := fun q => g1 (.inr q)
      rw [Hd.at g1, upd_ne hb]
      exact s5 _ _ g2
  · have e : l.drop (i + (ns.length + 3)) = r := by
      have z : (l.drop (i + 2)).drop (ns.length + 1) = l.drop (i + (ns.length + 3)) := by
        rw [List.drop_drop]
        congr 1
        omega
      rw [← z, gr, List.drop_append, List.drop_of_length_le (by omega), List.nil_append, show ns.length + 1 - ns.length = 1 by omega]
      rfl
    rw [e]
    exact hrest
  · rw [hpl, List.append_assoc]
    rfl
end
end G

end

section
set_option Elab.async false
set_option linter.all false
set_option maxHeartbeats 2000000
namespace G
open PySem
theorem asked1_inv {l : List Int} (h : Sx05Neutral.asked1 l = true) : (∃ (p : Nat) (ns : List Int), l = (p : Int) :: ns ∧ p < 11) ∧ ∃ x, Sx05Neutral.callOf l = some x := by
  unfold Sx05Neutral.asked1 at h
  split at h
  · exact ⟨⟨0, [], rfl, by decide⟩, _, rfl⟩
  · exact ⟨⟨1, _, rfl, by decide⟩, _, rfl⟩
  · exact ⟨⟨2, [], rfl, by decide⟩, _, rfl⟩
  · exact ⟨⟨3, _, rfl, by decide⟩, _, rfl⟩
  · exact ⟨⟨4, _, rfl, by decide⟩, _, rfl⟩
  · exact ⟨⟨5, _, rfl, by decide⟩, _, rfl⟩
  · exact ⟨⟨6, _, rfl, by decide⟩, _, rfl⟩
  · exact ⟨⟨7, _, rfl, by decide⟩, _, rfl⟩
  · exact ⟨⟨8, _, rfl, by decide⟩, _, rfl⟩
  · exact ⟨⟨9, _, rfl, by decide⟩, _, rfl⟩
  · refine ⟨⟨10, _, rfl, by decide⟩, ?_⟩
    rw [Bool.and_eq_true] at h
    have h2 := h.2
    split at h2
    · rename_i q hq
      exact ⟨_, hq⟩
    · cases h2
  · cases h
theorem toI_nats : ∀ {l : List Int}, (∀ z ∈ l, 0 ≤ z) → toI (Sx05Neutral.nats l) = l
  | [], _ => rfl
  | z :: r, h => by
    have ih := toI_nats (l := r) fun y hy => h y (List.mem_cons_of_mem _ hy)
    show ((z.toNat : Nat) : Int) :: toI (Sx05Neutral.nats r) = _
    rw [ih, Int.toNat_of_nonneg (h z List.mem_cons_self)]
theorem toI_append (a b : Bytes) : toI (a ++ b) = toI a ++ toI b := by unfold toI; rw [List.map_append]
theorem toI_length (a : Bytes) : (toI a).length = a.length := by unfold toI; rw [List.length_map]
theorem line_put : ∀ (cs0 : List (List (List Int))), (∀ c ∈ cs0, (c.length == 1 && Sx05Neutral.asked1 (c.headD [])) = true) → (∀ z ∈ PyWide.put cs0, 0 ≤ z) →
    ∃ (b : Bytes) (cs : List (Nat × Bytes)), PyWide.put cs0 = toI b ∧ Line b cs ∧ (∀ s, Sx05Neutral.answers s cs0 = playS s cs) ∧ ∀ s, PyFlat.played Sx05Neutral.step s cs0 = playS s cs
  | [], _, _ => ⟨[], [], rfl, .nil, fun _ => rfl, fun _ => rfl⟩
  | c :: cs0, h, hz => by
    have hc := h c List.mem_cons_self
    rw [Bool.and_eq_true, beq_iff_eq] at hc
    obtain ⟨h1, h2⟩ := hc
    obtain ⟨x, rfl⟩ := List.length_eq_one_iff.mp h1
    have h2 : Sx05Neutral.asked1 x = true := h2
    obtain ⟨⟨p, ns, rfl, hp⟩, y, hy⟩ := asked1_inv h2
    have e0 : PyWide.put ([(p : Int) :: ns] :: cs0) = (p : Int) :: ((ns.length : Int) :: (ns ++ (0 : Int) :: PyWide.put cs0)) := by
      show ((p : Int) :: ((PyFlat.putRow ns) ++ ((0 : Int) :: []))) ++ PyWide.put cs0 = _
      show (p : Int) :: (((ns.length : Int) :: ns) ++ [0]) ++ PyWide.put cs0 = _
      simp only [List.cons_append, List.append_assoc, List.nil_append]
    rw [e0] at hz
    have hns : ∀ z ∈ ns, 0 ≤ z := fun z q => hz z (by simp [q])
    obtain ⟨b, cs, i1, i2, i3, i4⟩ := line_put cs0 (fun d hd => h d (List.mem_cons_of_mem _ hd)) (fun z q => hz z (by simp [q]))
    have en := toI_nats hns
    have pre : preOf p (Sx05Neutral.nats ns) := by
      unfold preOf
      rw [en]
      exact ⟨⟨y, hy⟩, h2⟩
    have ln : (Sx05Neutral.nats ns).length = ns.length := by rw [← toI_length, en]
    refine ⟨p :: (Sx05Neutral.nats ns).length :: (Sx05Neutral.nats ns ++ 0 :: b), (p, Sx05Neutral.nats ns) :: cs, ?_, .cons hp pre i2, fun s => ?_, fun s => ?_⟩
    · rw [e0, i1, ln]
      show _ = (p : Int) :: (ns.length : Int) :: toI (Sx05Neutral.nats ns ++ 0 :: b)
      rw [toI_append, en]
      rfl
    · have st := step_is pre s
      rw [en] at st
      show (Sx05Neutral.step s [(p : Int) :: ns]).2 :: Sx05Neutral.answers (Sx05Neutral.step s [(p : Int) :: ns]).1 cs0 = _
      rw [st, i3]
      rfl
    · have st := step_is pre s
      rw [en] at st
      show (Sx05Neutral.step s [(p : Int) :: ns]).2 :: PyFlat.played Sx05Neutral.step (Sx05Neutral.step s [(p : Int) :: ns]).1 cs0 = _
      rw [st, i4]
      rfl
theorem line_of {l : List Int} (h : PySx05.answers_asked l = true) (hz : ∀ z ∈ l, 0 ≤ z) : ∃ (b : Bytes) (cs : List (Nat × Bytes)), l = toI b ∧ Line b cs ∧ sumL (playS [] cs) < 1000000 ∧ PySx05.answers l = toldOf (playS [] cs) := by
  unfold PySx05.answers_asked at h
  cases hc : PySx05.calls l with
  | none =>
    rw [hc] at h
    cases h
  | some cs0 =>
    rw [hc] at h
    simp only [Bool.and_eq_true] at h
    have ha := h.2
    unfold Sx05Neutral.asked at ha
    simp only [Bool.and_eq_true, decide_eq_true_eq] at ha
    obtain ⟨_, _, h3, h4⟩ := ha
    obtain ⟨el, _⟩ := PyWide.put_calls _ _ _ hc
    have h3 := List.all_eq_true.mp h3
    obtain ⟨b, cs, i1, i2, i3, i4⟩ := line_put cs0 (fun c hc => h3 c hc) (by rw [← el]; exact hz)
    refine ⟨b, cs, el.trans i1, i2, ?_, ?_⟩
    · rw [i3] at h4
      exact h4
    · unfold PySx05.answers
      rw [hc]
      show PyFlat.told (PyFlat.played Sx05Neutral.step [] cs0) = _
      rw [i4]
      rfl
end G

end

section
set_option Elab.async false
set_option linter.all false
set_option maxRecDepth 100000
set_option maxHeartbeats 4000000
namespace G
open PySem PySem.Spec PyProof.Rows L2 GR
/-! ### what the top leaves -/
/-- a def of the top -/
structure DefAt (K : PySem.W.Frag) (x q : Str) (st : Stmt) (f : Addr) : Prop where
  ns : PySem.W.nsIn K mainGlobals x = some (some (.ref f))
  fn : ∃ fd, Fun K x q st f fd
theorem DefAt.by {K : PySem.W.Frag} {x q : Str} {st : Stmt} {f : Addr} {oc : Value} {od an : Option Addr} {sl : Array (Option Value)} {kV dc pm cd ct : Value} (a : PySem.W.nsIn K mainGlobals x = some (some (.ref f)))
    (l : K.lookup f = some ⟨oc, od, .func (PySem.W.fnOf x q (defArgs st) (defBody st) (defScope st) .none kV dc pm an cd ct), sl⟩) (c : PySem.W.codeIn K cd q = true) (k : PySem.W.keepIn K (.ref f) = true) : DefAt K x q st f :=
  ⟨a, _, fun_mk (st := st) l c k⟩
/-- a class of the top, its __init__ -/
structure ClsAt (K : PySem.W.Frag) (x q : Str) (st : Stmt) (C : Addr) : Prop where
  ns : PySem.W.nsIn K mainGlobals x = some (some (.ref C))
  fn : ∃ f fd, Mk K C f ∧ Fun K "__init__" q st f fd
  cl : Cls K C
theorem ClsAt.by {K : PySem.W.Frag} {x q : Str} {st : Stmt} {C f : Addr} {oc : Value} {od an : Option Addr} {sl : Array (Option Value)} {kV dc pm cd ct : Value} (a : PySem.W.nsIn K mainGlobals x = some (some (.ref C)))
    (i : PySem.W.findIn K (.ref C) "__init__" = some (some (.ref f))) (b : PySem.W.isFn K (.ref f) = true)
    (l : K.lookup f = some ⟨oc, od, .func (PySem.W.fnOf "__init__" q (defArgs st) (defBody st) (defScope st) .none kV dc pm an cd ct), sl⟩) (c : PySem.W.codeIn K cd q = true) (k : PySem.W.keepIn K (.ref f) = true)
    (pg : PySem.W.plainGet K C Str.empty = true) (hd : PySem.W.hasDictIn K C = true) (po : PySem.W.plainOver K C = true) (sa : PySem.W.findIn K (.ref C) "__setattr__" = some (some (.builtin "object.__setattr__"))) (mk : PySem.W.makesIn K C = true) (kc : PySem.W.keepIn K (.ref C) = true) : ClsAt K x q st C :=
  ⟨a, ⟨f, _, ⟨mk, i, b, kc⟩, fun_mk (st := st) l c k⟩, ⟨pg, hd, po, sa⟩⟩
/-- an exception's class of the top, its __init__ -/
structure ExcAt (K : PySem.W.Frag) (x q : Str) (st : Stmt) (C : Addr) : Prop where
  ns : PySem.W.nsIn K mainGlobals x = some (some (.ref C))
  xc : XcC K C
  xf : XfC K C
  te : PySem.W.exmOne K (.ref C) (.ref C) = some true
  fn : ∃ f fd, PySem.W.findIn K (.ref C) "__init__" = some (some (.ref f)) ∧ PySem.W.typeIn K (.ref f) = some (.type "function") ∧ Fun K "__init__" q st f fd
theorem exm_me {K : PySem.W.Frag} {S : Addr} (h1 : PySem.W.subIn K (.ref S) (.type "BaseException") = some true) (h2 : PySem.W.isClsIn K S = true) (h3 : PySem.W.typeIn K (.ref S) = some (.type "type")) (h4 : PySem.W.subIn K (.ref S) (.ref S) = some true) :
    PySem.W.exmOne K (.ref S) (.ref S) = some true := by
  have e1 : (PySem.W.subIn K (.ref S) (.type "BaseException") == some true) = true := by rw [h1] <;> rfl
  have e2 : ((PySem.W.clsIn K S).isSome && PySem.W.typeIn K (.ref S) == some (.type "type")) = true := by
    have h2' : (PySem.W.clsIn K S).isSome = true := h2
    rw [h2', h3] <;> rfl
  show (if (PySem.W.subIn K (.ref S) (.type "BaseException") == some true) = true then (if ((PySem.W.clsIn K S).isSome && PySem.W.typeIn K (.ref S) == some (.type "type")) = true then PySem.W.subIn K (.ref S) (.ref S) else none) else none) = some true
  rw [if_pos e1, if_pos e2]
  exact h4
theorem ExcAt.by {K : PySem.W.Frag} {x q : Str} {st : Stmt} {C f : Addr} {oc : Value} {od an : Option Addr} {sl : Array (Option Value)} {kV dc pm cd ct : Value}
    {nm qn : Str} {N : Addr} {bs : List Value} {sn : List Str} {sub : List Value} {ab : Bool} {col : Option Bool} {dd : Option Addr} {m0 m1 m2 m3 m5 : Option Value} (a : PySem.W.nsIn K mainGlobals x = some (some (.ref C)))
    (xL : K.lookup C = some (excClassObj nm qn C N bs exTail true sn sub ab col dd m0 m1 m2 m3 m5 "Exception.__new__"))
    (sa : PySem.W.findIn K (.ref C) "__setattr__" = some (some (.builtin "object.__setattr__"))) (ga : PySem.W.findIn K (.ref C) "__getattribute__" = some (some (.builtin "BaseException.__getattribute__"))) (gg : PySem.W.findIn K (.ref C) "__getattr__" = some none)
    (i : PySem.W.findIn K (.ref C) "__init__" = some (some (.ref f))) (tf : PySem.W.typeIn K (.ref f) = some (.type "function"))
    (l : K.lookup f = some ⟨oc, od, .func (PySem.W.fnOf "__init__" q (defArgs st) (defBody st) (defScope st) .none kV dc pm an cd ct), sl⟩) (c : PySem.W.codeIn K cd q = true) (k : PySem.W.keepIn K (.ref f) = true)
    (kc : PySem.W.keepIn K (.ref C) = true) (ec : PySem.W.subIn K (.ref C) (.type "BaseException") = some true) (tc : PySem.W.typeIn K (.ref C) = some (.type "type")) (hc : PySem.W.hasDictIn K C = true) (ic : PySem.W.isClsIn K C = true) (sc : PySem.W.subIn K (.ref C) (.ref C) = some true) : ExcAt K x q st C :=
  ⟨a, ⟨⟨nm, qn, N, bs, sn, sub, ab, col, dd, m0, m1, m2, m3, m5, xL⟩, sa, ec, tc, kc⟩, ⟨ga, gg, ec, hc⟩, exm_me ec ic tc sc, f, _, i, tf, fun_mk (st := st) l c k⟩
/-- a whole number of the top -/
def IntAt (K : PySem.W.Frag) (x : Str) (n : Int) : Prop := ∃ t, PySem.W.nsIn K mainGlobals x = some (some (.int n t))
theorem IntAt.by {K : PySem.W.Frag} {x : Str} {n : Int} {t : Tok} (h : PySem.W.nsIn K mainGlobals x = some (some (.int n t))) : IntAt K x n := ⟨t, h⟩
def BuiltIn (K : PySem.W.Frag) (x : Str) : Prop := PySem.W.nsIn K mainGlobals x = some none
/-- a tuple of the top -/
structure TupAt (K : PySem.W.Frag) (x : Str) (a : Addr) (vs : List Value) : Prop where
  ns : PySem.W.nsIn K mainGlobals x = some (some (.ref a))
  lk : ∃ (od : Option Addr) (sl : Array (Option Value)) (n : Nat), K.lookup a = some ⟨.type "tuple", od, .seq ⟨vs⟩ n, sl⟩
theorem TupAt.by {K : PySem.W.Frag} {x : Str} {a : Addr} {vs : List Value} {od : Option Addr} {sl : Array (Option Value)} {n : Nat} (h : PySem.W.nsIn K mainGlobals x = some (some (.ref a))) (l : K.lookup a = some ⟨.type "tuple", od, .seq ⟨vs⟩ n, sl⟩) : TupAt K x a vs := ⟨h, od, sl, n, l⟩
def Tup3 (K : PySem.W.Frag) (x : Str) (a : Addr) (i j k : Int) : Prop := ∃ t1 t2 t3, TupAt K x a [.int i t1, .int j t2, .int k t3]
theorem Tup3.by {K : PySem.W.Frag} {x : Str} {a : Addr} {i j k : Int} {t1 t2 t3 : Tok} {od : Option Addr} {sl : Array (Option Value)} {n : Nat} (h : PySem.W.nsIn K mainGlobals x = some (some (.ref a))) (l : K.lookup a = some ⟨.type "tuple", od, .seq ⟨[.int i t1, .int j t2, .int k t3]⟩ n, sl⟩) : Tup3 K x a i j k := ⟨t1, t2, t3, h, od, sl, n, l⟩
theorem TupAt.sq {K : PySem.W.Frag} {x : Str} {a : Addr} {us : List Value} (T : TupAt K x a us) {vs : List V} (h : Vals vs us) (hl : us.length ≤ 1000) (H : Hp) : SqT K H a vs := by
  obtain ⟨od, sl, n, lk⟩ := T.lk
  refine .inr ⟨_, ⟨us⟩, n, lk, rfl, rfl, ?_, ?_⟩
  · rw [sizeLine_eq]
    show us.length ≤ _
    omega
  · exact h
theorem up_ok {P : Program} {w : World} {K : PySem.W.Frag} {mg : Str → Option Value} {base : Heap} {CX : CXT} {k k' : Nat} {f : Addr} {fd : FuncData} {ps : List Str} {sp : Sp} (F : FnOk P w K mg base CX k f fd ps sp) (h : k ≤ k') : FnOk P w K mg base CX k' f fd ps sp :=
  ⟨F.len, fun A outer s H args us vs Q E hr he hb hv hs => F.run A outer s H args us vs Q E (hr.mono h) he hb hv hs⟩
/-! ### the calls by their places -/
theorem cOf_eq {p : Nat} {ns : Bytes} {x : Sx05.Call} (h : Sx05Neutral.callOf ((p : Int) :: toI ns) = some x) : cOf p ns = x := by
  unfold cOf
  rw [h]
  rfl
theorem asked_len0 {ns : Bytes} {p : Nat} (hp : p = 0 ∨ p = 2 ∨ p = 4 ∨ p = 8) (h : preOf p ns) : ns = [] := by
  obtain ⟨_, h⟩ := h
  cases ns with
  | nil => rfl
  | cons n r =>
    rcases hp with rfl | rfl | rfl | rfl <;> (unfold Sx05Neutral.asked1 at h; simp [toI] at h)
theorem asked_len1 {ns : Bytes} {p : Nat} (hp : p = 3 ∨ p = 5) (h : preOf p ns) : ∃ n, ns = [n] := by
  obtain ⟨_, h⟩ := h
  match ns, h with
  | [], h => rcases hp with rfl | rfl <;> (unfold Sx05Neutral.asked1 at h; simp [toI] at h)
  | [n], _ => exact ⟨n, rfl⟩
  | a :: b :: r, h => rcases hp with rfl | rfl <;> (unfold Sx05Neutral.asked1 at h; simp [toI] at h)
section
variable {P : Program} {w : World} {K : PySem.W.Frag} {mg : Str → Option Value} {base : Heap} {A : Adr}
theorem spDesk_imp {c c' : Bytes → Sx05.Call} {p p' : Bytes → Prop} (h : ∀ ns, p' ns → p ns ∧ c' ns = c ns) : ∀ vs H Q E, spDesk P w A c' p' vs H Q E → spDesk P w A c p vs H Q E := by
  rintro vs H Q E ⟨S, dk, nb, ns, l, h1, h2, h3, h4, h5, h6, h7, h8, k⟩
  obtain ⟨q1, q2⟩ := h ns h7
  rw [q2] at h8 k
  exact ⟨S, dk, nb, ns, l, h1, h2, h3, h4, h5, h6, q1, h8, k⟩
theorem held {x : Str} {k p : Nat} {f : Addr} {fd : FuncData} {c : Bytes → Sx05.Call} {pre : Bytes → Prop} (F : FnOk P w K mg base CX0 k f fd ["desk", "numbers"] (spDesk P w A c pre)) (b : Binds K fd ["desk", "numbers"] []) (kp : PySem.W.keepIn K (.ref f) = true) (hk : k ≤ 10)
    (h : ∀ ns, preOf p ns → pre ns ∧ cOf p ns = c ns) : Held P w K mg base 10 f (spDesk P w A (cOf p) (preOf p)) := ⟨fd, _, up_ok (FnOk.imp F (spDesk_imp h)) hk, kp, b⟩
end
theorem h_begins : ∀ ns, preOf 0 ns → True ∧ cOf 0 ns = .begins := fun ns h => by
  rw [asked_len0 (.inl rfl) h]
  exact ⟨trivial, cOf_eq rfl⟩
theorem h_said : ∀ ns, preOf 2 ns → True ∧ cOf 2 ns = .said := fun ns h => by
  rw [asked_len0 (.inr (.inl rfl)) h]
  exact ⟨trivial, cOf_eq rfl⟩
theorem h_known : ∀ ns, preOf 4 ns → True ∧ cOf 4 ns = .known := fun ns h => by
  rw [asked_len0 (.inr (.inr (.inl rfl))) h]
  exact ⟨trivial, cOf_eq rfl⟩
theorem h_unlike : ∀ ns, preOf 8 ns → True ∧ cOf 8 ns = .unlike := fun ns h => by
  rw [asked_len0 (.inr (.inr (.inr rfl))) h]
  exact ⟨trivial, cOf_eq rfl⟩
theorem h_item : ∀ ns, preOf 3 ns → ns.length = 1 ∧ cOf 3 ns = .item (ns.headD 0) := fun ns h => by
  obtain ⟨n, rfl⟩ := asked_len1 (.inl rfl) h
  exact ⟨rfl, cOf_eq rfl⟩
theorem h_piece : ∀ ns, preOf 5 ns → ns.length = 1 ∧ cOf 5 ns = .piece (ns.headD 0) := fun ns h => by
  obtain ⟨n, rfl⟩ := asked_len1 (.inr rfl) h
  exact ⟨rfl, cOf_eq rfl⟩
theorem h_read : ∀ ns, preOf 1 ns → ns.length ≤ 7000 ∧ cOf 1 ns = .read ns := fun ns h => by
  obtain ⟨_, h⟩ := h
  have h : (Sx05Neutral.bytes (toI ns) && decide ((toI ns).length ≤ 7000)) = true := h
  rw [Bool.and_eq_true, decide_eq_true_eq, toI_length] at h
  refine ⟨h.2, ?_⟩
  have e : Sx05Neutral.callOf ((1 : Int) :: toI ns) = some (.read (Sx05Neutral.nats (toI ns))) := rfl
  rw [cOf_eq e, nats_toI]
theorem h_glosses : ∀ ns, preOf 6 ns → ns.length ≤ 100 ∧ cOf 6 ns = .glosses ns := fun ns h => by
  obtain ⟨_, h⟩ := h
  have h : (Sx05Neutral.bytes (toI ns) && decide ((toI ns).length ≤ 100)) = true := h
  rw [Bool.and_eq_true, decide_eq_true_eq, toI_length] at h
  refine ⟨h.2, ?_⟩
  have e : Sx05Neutral.callOf ((6 : Int) :: toI ns) = some (.glosses (Sx05Neutral.nats (toI ns))) := rfl
  rw [cOf_eq e, nats_toI]
theorem h_forms : ∀ ns, preOf 7 ns → ns.length ≤ 100 ∧ cOf 7 ns = .forms ns := fun ns h => by
  obtain ⟨_, h⟩ := h
  have h : (Sx05Neutral.bytes (toI ns) && decide ((toI ns).length ≤ 100)) = true := h
  rw [Bool.and_eq_true, decide_eq_true_eq, toI_length] at h
  refine ⟨h.2, ?_⟩
  have e : Sx05Neutral.callOf ((7 : Int) :: toI ns) = some (.forms (Sx05Neutral.nats (toI ns))) := rfl
  rw [cOf_eq e, nats_toI]
theorem h_apart : ∀ ns, preOf 9 ns → (∃ m b, ns = m :: b ∧ b.length ≤ 100) ∧ cOf 9 ns = .apart (ns.headD 0) ns.tail := fun ns h => by
  obtain ⟨_, h⟩ := h
  cases ns with
  | nil => unfold Sx05Neutral.asked1 at h; simp [toI] at h
  | cons m b =>
    have h : (Sx05Neutral.small (m : Int) && (Sx05Neutral.bytes (toI b) && decide ((toI b).length ≤ 100))) = true := h
    rw [Bool.and_eq_true, Bool.and_eq_true, decide_eq_true_eq, toI_length] at h
    refine ⟨⟨m, b, rfl, h.2.2⟩, ?_⟩
    have e : Sx05Neutral.callOf ((9 : Int) :: toI (m :: b)) = some (.apart m (Sx05Neutral.nats (toI b))) := rfl
    rw [cOf_eq e, nats_toI]
    rfl
end G

end

section
set_option Elab.async false
set_option linter.all false
set_option maxHeartbeats 2000000
namespace G
open PySem
/-! ### the numbers of a search -/
def encWant (x : Sx05.Want) : Bytes := x.kind :: x.bytes.length :: x.bytes
def encStep (x : Sx05.Step) : Bytes := x.gap :: x.wants.length :: x.wants.flatMap encWant
def encFind (q : List Sx05.Step) : Bytes := q.length :: q.flatMap encStep
/-- a reader takes just what enc writes -/
def Reads {α : Type} (p : Sx05Neutral.P α) (enc : α → Bytes) (ok : α → Prop) : Prop := ∀ (l : Bytes) (x : α) (r : List Int), p (toI l) = some (x, r) → ∃ r' : Bytes, r = toI r' ∧ l = enc x ++ r' ∧ ok x
theorem many_reads {α : Type} {p : Sx05Neutral.P α} {enc : α → Bytes} {ok : α → Prop} (h : Reads p enc ok) : ∀ (n : Nat) (l : Bytes) (xs : List α) (r : List Int), Sx05Neutral.many p n (toI l) = some (xs, r) →
    ∃ r' : Bytes, r = toI r' ∧ l = xs.flatMap enc ++ r' ∧ xs.length = n ∧ ∀ x ∈ xs, ok x
  | 0, l, xs, r, e => by
    have e : some (([] : List α), toI l) = some (xs, r) := e
    cases e
    exact ⟨l, rfl, rfl, rfl, fun x hx => by cases hx⟩
  | n + 1, l, xs, r, e => by
    have e : ((p (toI l)).bind fun (x : α × List Int) => (Sx05Neutral.many p n x.2).map fun (y : List α × List Int) => (x.1 :: y.1, y.2)) = some (xs, r) := e
    cases e1 : p (toI l) with
    | none =>
      rw [e1] at e
      cases e
    | some y =>
      obtain ⟨x, r1⟩ := y
      rw [e1] at e
      obtain ⟨r1', rfl, el, hx⟩ := h l x r1 e1
      have e : ((Sx05Neutral.many p n (toI r1')).map fun (y : List α × List Int) => (x :: y.1, y.2)) = some (xs, r) := e
      cases e2 : Sx05Neutral.many p n (toI r1') with
      | none =>
        rw [e2] at e
        cases e
      | some y =>
        obtain ⟨ys, r2⟩ := y
        rw [e2] at e
        have e : some (x :: ys, r2) = some (xs, r) := e
        cases e
        obtain ⟨r2', rfl, rfl, hl, hy⟩ := many_reads h n r1' ys r e2
        refine ⟨r2', rfl, ?_, by rw [List.length_cons, hl], fun z hz => ?_⟩
        · rw [el, List.flatMap_cons, List.append_assoc]
        · rcases List.mem_cons.mp hz with rfl | hz
          · exact hx
          · exact hy z hz
theorem listed_reads {α : Type} {p : Sx05Neutral.P α} {enc : α → Bytes} {ok : α → Prop} (h : Reads p enc ok) : Reads (Sx05Neutral.listed p) (fun xs => xs.length :: xs.flatMap enc) fun xs => xs.length ≤ 100 ∧ ∀ x ∈ xs, ok x := by
  intro l xs r e
  cases l with
  | nil => cases e
  | cons n l =>
    have e : (if 0 ≤ (n : Int) ∧ (n : Int) ≤ 100 then Sx05Neutral.many p (n : Int).toNat (toI l) else none) = some (xs, r) := e
    split at e
    · rename_i hn
      obtain ⟨r', e1, e2, e3, e4⟩ := many_reads h _ l xs r e
      have hn2 : xs.length = n := by rw [e3]; rfl
      refine ⟨r', e1, ?_, ?_, e4⟩
      · show n :: l = xs.length :: (xs.flatMap enc ++ r')
        rw [hn2, e2]
      · omega
    · cases e
theorem nat_reads : Reads Sx05Neutral.nat (fun n => [n]) fun _ => True := by
  intro l x r e
  cases l with
  | nil => cases e
  | cons n l =>
    have e : some (((n : Int).toNat), toI l) = some (x, r) := e
    cases e
    exact ⟨l, rfl, rfl, trivial⟩
theorem flat_nat : ∀ l : Bytes, (l.flatMap fun n => [n]) = l
  | [] => rfl
  | n :: r => by
    rw [List.flatMap_cons, flat_nat r]
    rfl
theorem want_reads : Reads Sx05Neutral.wantIn encWant fun x => x.bytes.length ≤ 100 := by
  intro l x r e
  cases l with
  | nil => cases e
  | cons n l =>
    have e : ((Sx05Neutral.listed Sx05Neutral.nat (toI l)).map fun (x : List Nat × List Int) => ((⟨(n : Int).toNat, x.1⟩ : Sx05.Want), x.2)) = some (x, r) := e
    cases e1 : Sx05Neutral.listed Sx05Neutral.nat (toI l) with
    | none =>
      rw [e1] at e
      cases e
    | some y =>
      obtain ⟨b, r1⟩ := y
      rw [e1] at e
      have e : some ((⟨(n : Int).toNat, b⟩ : Sx05.Want), r1) = some (x, r) := e
      cases e
      obtain ⟨r', e2, e3, e4, _⟩ := listed_reads nat_reads l b r e1
      refine ⟨r', e2, ?_, e4⟩
      have e3 : l = b.length :: ((b.flatMap fun n => [n]) ++ r') := e3
      rw [e3, flat_nat]
      rfl
def wantsOk (x : Sx05.Step) : Prop := x.wants.length ≤ 100 ∧ ∀ w ∈ x.wants, w.bytes.length ≤ 100
theorem step_reads : Reads Sx05Neutral.stepIn encStep wantsOk := by
  intro l x r e
  cases l with
  | nil => cases e
  | cons n l =>
    have e : ((Sx05Neutral.listed Sx05Neutral.wantIn (toI l)).map fun (x : List Sx05.Want × List Int) => ((⟨(n : Int).toNat, x.1⟩ : Sx05.Step), x.2)) = some (x, r) := e
    cases e1 : Sx05Neutral.listed Sx05Neutral.wantIn (toI l) with
    | none =>
      rw [e1] at e
      cases e
    | some y =>
      obtain ⟨b, r1⟩ := y
      rw [e1] at e
      have e : some ((⟨(n : Int).toNat, b⟩ : Sx05.Step), r1) = some (x, r) := e
      cases e
      obtain ⟨r', e2, e3, e4⟩ := listed_reads want_reads l b r e1
      refine ⟨r', e2, ?_, e4⟩
      rw [e3]
      rfl
/-- what a search's numbers are -/
def preFind (ns : Bytes) (q : List Sx05.Step) : Prop := ns = encFind q ∧ q.length ≤ 100 ∧ (∀ x ∈ q, wantsOk x) ∧ ∀ n ∈ ns, n < 4294967296
theorem h_find : ∀ ns, preOf 10 ns → ∃ q, preFind ns q ∧ cOf 10 ns = .find q := by
  rintro ns ⟨_, h⟩
  have h : ((toI ns).all Sx05Neutral.small && (match Sx05Neutral.callOf (10 :: toI ns) with
    | some (.find q) => Sx05Neutral.searchAsked q
    | _ => false)) = true := h
  rw [Bool.and_eq_true] at h
  obtain ⟨h1, h2⟩ := h
  have ec : Sx05Neutral.callOf (10 :: toI ns) = ((Sx05Neutral.listed Sx05Neutral.stepIn (toI ns)).bind fun (x : List Sx05.Step × List Int) => if x.2.isEmpty = true then some (Sx05.Call.find x.1) else none) := by
    cases ns <;> rfl
  rw [ec] at h2
  cases e1 : Sx05Neutral.listed Sx05Neutral.stepIn (toI ns) with
  | none =>
    rw [e1] at h2
    cases h2
  | some y =>
    obtain ⟨q, r⟩ := y
    rw [e1] at h2
    obtain ⟨r', rfl, e3, e4, e5⟩ := listed_reads step_reads ns q r e1
    cases r' with
    | cons n l =>
      have h2 : (false : Bool) = true := h2
      cases h2
    | nil =>
      rw [List.append_nil] at e3
      refine ⟨q, ⟨e3, e4, e5, fun n hn => ?_⟩, ?_⟩
      · have z := List.all_eq_true.mp h1 (n : Int) (List.mem_map_of_mem hn)
        unfold Sx05Neutral.small at z
        simp only [Bool.and_eq_true, decide_eq_true_eq] at z
        omega
      · refine cOf_eq (p := 10) ?_
        show Sx05Neutral.callOf (10 :: toI ns) = _
        rw [ec, e1]
        rfl
end G

end

section
set_option Elab.async false
set_option linter.all false
set_option maxRecDepth 100000
set_option maxHeartbeats 4000000
namespace G
open PySem PySem.Spec PyProof.Rows L2 GR
/-! ### steps -/
def WtAt (H : Hp) (t : Addr) (x : Sx05.Want) : Prop := ∃ b, H t = some (.tup [ni x.kind, .ref b]) ∧ H b = some (.tup (nis x.bytes))
theorem WtAt.same {H H' : Hp} (s : Same H H') {t : Addr} {x : Sx05.Want} (h : WtAt H t x) : WtAt H' t x := by
  obtain ⟨b, e1, e2⟩ := h
  exact ⟨b, s _ _ e1, s _ _ e2⟩
def WtsAt (H : Hp) (p : Addr) (ws : List Sx05.Want) : Prop := ∃ ts : List Addr, H p = some (.lst (ts.map V.ref)) ∧ Paired (WtAt H) ts ws
theorem WtsAt.same {H H' : Hp} (s : Same H H') {p : Addr} {ws : List Sx05.Want} (h : WtsAt H p ws) : WtsAt H' p ws := by
  obtain ⟨ts, e, r⟩ := h
  exact ⟨ts, s _ _ e, Paired.mapP r fun _ _ z => z.same s⟩
def StepAt (A : Adr) (H : Hp) (a : Addr) (x : Sx05.Step) : Prop := ∃ dx p, H a = some (.ins A.Step dx [("gap", ni x.gap), ("wanted", .ref p)]) ∧ WtsAt H p x.wants
theorem StepAt.same {A : Adr} {H H' : Hp} (s : Same H H') {a : Addr} {x : Sx05.Step} (h : StepAt A H a x) : StepAt A H' a x := by
  obtain ⟨dx, p, e1, e2⟩ := h
  exact ⟨dx, p, s _ _ e1, e2.same s⟩
def StepsAt (A : Adr) (H : Hp) (p : Addr) (q : List Sx05.Step) : Prop := ∃ as : List Addr, H p = some (.lst (as.map V.ref)) ∧ Paired (StepAt A H) as q
theorem StepsAt.same {A : Adr} {H H' : Hp} (s : Same H H') {p : Addr} {q : List Sx05.Step} (h : StepsAt A H p q) : StepsAt A H' p q := by
  obtain ⟨as, e, r⟩ := h
  exact ⟨as, s _ _ e, Paired.mapP r fun _ _ z => z.same s⟩
def spSrcI (A : Adr) : Sp := fun vs H Q _ => ∃ (x dx nb : Addr), vs = [.ref x, .ref nb] ∧ H x = some (.ins A.Source dx []) ∧ Q .non (upd H x (srcO A dx nb 0))
def spStepOf (A : Adr) : Sp := fun vs H Q E => ∃ (s dx nb : Addr) (i : Nat) (ns : Bytes) (x : Sx05.Step) (r : Bytes), vs = [.ref s] ∧ H s = some (srcO A dx nb i) ∧ H nb = some (.lst (nis ns)) ∧ ns.drop i = encStep x ++ r ∧ wantsOk x ∧
  (Sx05.stepOk x = true → ∀ H' a, Same (Off H s) (Off H' s) → H' s = some (srcO A dx nb (i + (encStep x).length)) → StepAt A (New H H') a x → Q (.ref a) H') ∧
  (Sx05.stepOk x = false → ∀ H', Same (Off H s) (Off H' s) → E (.ref A.BadSteps) none H')
def goodQ (q : List Sx05.Step) : Bool := decide (1 ≤ q.length) && (decide (q.length ≤ 4) && q.all Sx05.stepOk)
def spSteps (A : Adr) : Sp := fun vs H Q E => ∃ (nb : Addr) (q : List Sx05.Step), vs = [.ref nb] ∧ H nb = some (.lst (nis (encFind q))) ∧ (∀ x ∈ q, wantsOk x) ∧
  (goodQ q = true → ∀ H' p, Same H H' → StepsAt A H' p q → Q (.ref p) H') ∧ (goodQ q = false → ∀ H', Same H H' → E (.ref A.BadSteps) none H')
theorem drop_two {l r : Bytes} {i a b : Nat} (h : l.drop i = a :: b :: r) : l[i]? = some a ∧ l[i + 1]? = some b ∧ l.drop (i + 2) = r := drop_at h
theorem drop_len {l a r : Bytes} {i : Nat} (h : l.drop i = a ++ r) (hi : i ≤ l.length) : i + a.length ≤ l.length := by
  have := congrArg List.length h
  rw [List.length_drop, List.length_append] at this
  omega
theorem newOff {H H1 H2 : Hp} {s : Addr} (hs : H s ≠ none) (h : Same (Off H1 s) (Off H2 s)) : Same (New H H1) (New H H2) := fun b o e => by
  obtain ⟨g1, g2⟩ := New.inv e
  have hb : b ≠ s := fun z => hs (z ▸ g1)
  rw [New.at g1]
  exact Off.same _ _ (h b o (by rw [Off.ne hb]; exact g2))
theorem Gw.put {H H1 : Hp} {x D : Addr} {o : HO} (g : Gw H x H1) (n : H D = none) (hD : D ≠ x) : Gw H x (L2.upd H1 D o) := by
  refine ⟨fun b u e => ?_, by rw [upd_ne (Ne.symm hD)]; exact g.hx⟩
  have hb : b ≠ x := fun z => by rw [z, Off.at] at e; cases e
  have e2 := g.sm b u e
  rw [Off.ne hb] at e e2 ⊢
  rw [upd_ne (ne_of_none e n)]
  exact e2
theorem stepOk_gap {x : Sx05.Step} (h : 30 < x.gap) : Sx05.stepOk x = false := by
  unfold Sx05.stepOk
  rw [decide_eq_false (by omega), Bool.false_and]
theorem stepOk_len {x : Sx05.Step} (h : 4 < x.wants.length) : Sx05.stepOk x = false := by
  unfold Sx05.stepOk
  rw [decide_eq_false (p := x.wants.length ≤ 4) (by omega), Bool.false_and, Bool.and_false]
theorem stepOk_kind {x : Sx05.Step} {y : Sx05.Want} (hy : y ∈ x.wants) (h : 6 < y.kind) : Sx05.stepOk x = false := by
  unfold Sx05.stepOk
  have e : (x.wants.all fun y => decide (y.kind ≤ 6)) = false := by
    cases q : (x.wants.all fun y => decide (y.kind ≤ 6)) with
    | false => rfl
    | true =>
      have z := of_decide_eq_true (List.all_eq_true.mp q y hy)
      omega
  rw [e, Bool.and_false, Bool.and_false]
theorem stepOk_yes {x : Sx05.Step} (h1 : x.gap ≤ 30) (h2 : x.wants.length ≤ 4) (h3 : ∀ y ∈ x.wants, y.kind ≤ 6) : Sx05.stepOk x = true := by
  unfold Sx05.stepOk
  rw [decide_eq_true h1, decide_eq_true h2, Bool.true_and, Bool.true_and]
  exact List.all_eq_true.mpr fun y hy => decide_eq_true (h3 y hy)
section
variable {P : Program} {w : World} {K : PySem.W.Frag} {mg : Str → Option Value} {base : Heap} {A : Adr} {f1 f2 f3 f4 : Addr}
theorem sc_Source : FnScope ["self", "numbers"] ["self", "numbers"] (defScope s_Source) := ⟨rfl, rfl, rfl, by decide +kernel, rfl, by decide +kernel, by decide +kernel⟩
theorem ok_Source {f : Addr} {fd : FuncData} (F : Fun K "__init__" "Source.__init__" s_Source f fd) (T : SrT K A) : FnOk P w K mg base CX0 1 f fd ["self", "numbers"] (spSrcI A) := by
  refine F.ok sc_Source (fun vs H Q E h => ?_) (fun cdv Ar outer s H vs Q E hr h => ?_)
  · obtain ⟨x, dx, nb, rfl, _⟩ := h
    rfl
  refine ⟨_, pss_cons (ps_fld (pv 0) (pv 1) rfl) (pss_one (ps_fld (pv 0) pe_int rfl)), ?_⟩
  obtain ⟨x, dx, nb, rfl, hx, q⟩ := h
  refine ⟨_, rfl, _, rfl, x, A.Source, dx, _, rfl, hx, T.cl, T.n1, (by show 0 < 1000; decide), ?_⟩
  rw [putF1]
  refine ⟨_, rfl, x, A.Source, dx, _, rfl, upd_same, T.cl, T.n2, (by show 1 < 1000; decide), ?_⟩
  rw [putFn _ _ (by decide +kernel), putF1, upd_upd]
  exact q
theorem sc_Step : FnScope ["self", "gap", "wanted"] ["self", "gap", "wanted"] (defScope s_Step) := ⟨rfl, rfl, rfl, by decide +kernel, rfl, by decide +kernel, by decide +kernel⟩
theorem ok_Step {f C : Addr} {fd : FuncData} (F : Fun K "__init__" "Step.__init__" s_Step f fd) (cl : Cls K C) (n1 : NoAttr K C "gap") (n2 : NoAttr K C "wanted") : FnOk P w K mg base CX0 1 f fd ["self", "gap", "wanted"] (spRec2 C "gap" "wanted") := by
  refine F.ok sc_Step (fun vs H Q E h => ?_) (fun cdv Ar outer s H vs Q E hr h => ⟨_, pss_cons (ps_fld (pv 0) (pv 1) rfl) (pss_one (ps_fld (pv 0) (pv 2) rfl)), rec2_read cl n1 n2 (by decide +kernel) h rfl⟩)
  obtain ⟨p, dx, x, y, rfl, _⟩ := h
  rfl
theorem sc_step_of : FnScope ["source", "gap", "amount", "wanted", "count", "kind"] ["source"] (defScope s_step_of) := ⟨rfl, rfl, rfl, by decide +kernel, rfl, by decide +kernel, by decide +kernel⟩
theorem ok_step_of {f : Addr} {fd : FuncData} (F : Fun K "step_of" "step_of" s_step_of f fd) (T : SrT K A) (RS : Rec2 P w K mg base "Step" A.Step "gap" "wanted") (M2 : MDef P w K mg base (L2.CX P w) 2 "take_up_to" A.Source f2 ["self", "most"] (spTakeUp A)) (M3 : MDef P w K mg base CX0 2 "take_counted" A.Source f3 ["self"] (spTakeC A))
    (mR : mg "range" = none) {t30 t4 t6 : Tok} (m30 : mg "MOST_GAP" = some (.int 30 t30)) (m4 : mg "MOST_WANTED" = some (.int 4 t4)) (m6 : mg "MOST_KIND" = some (.int 6 t6)) : FnOk P w K mg base (L2.CX P w) 3 f fd ["source"] (spStepOf A) := by
  refine F.okX sc_step_of (fun vs H Q E h => ?_) (fun cdv Ar outer s H vs Q E hr h => ?_)
  · obtain ⟨s, dx, nb, i, ns, x, r, rfl, _⟩ := h
    rfl
  have pc : ∀ {X : Cx}, (tk : Takes X fun cls d _ H => E cls d H) → Passes (L2.CX X.prog X.w) X E := fun tk => passes_call tk fun _ _ _ _ z => z
  obtain ⟨fd2, F2, b2⟩ := M2.ex
  obtain ⟨fd3, F3, b3⟩ := M3.ex
  refine ⟨_, pss_cons (ps_set (i := 1) sc_step_of.nd rfl (.inl rfl) (pe_meth (pv 0) T.cl M2.mt F2 hr b2 .nil (pc (takes_of rfl rfl rfl rfl)) (by exact (pa_cons (pe_glob (v := .int 30) rfl m30 ⟨_, rfl⟩) pa_nil))))
    (pss_cons (ps_set (i := 2) sc_step_of.nd rfl (.inl rfl) (pe_meth (pv 0) T.cl M2.mt F2 hr b2 .nil (pc (takes_of rfl rfl rfl rfl)) (by exact (pa_cons (pe_glob (v := .int 4) rfl m4 ⟨_, rfl⟩) pa_nil))))
    (pss_cons (ps_set (i := 3) sc_step_of.nd rfl (.inl rfl) (pe_lst pa_nil))
    (pss_cons (ps_for (passes_of rfl) rfl (pi_range1 (by rfl) mR (by exact (pa_cons (pv 2) pa_nil))) (pg_name (i := 4) sc_step_of.nd rfl (.inl rfl))
      (pss_cons (ps_set (i := 5) sc_step_of.nd rfl (.inl rfl) (pe_meth (pv 0) T.cl M2.mt F2 hr b2 .nil (pc (takes_of rfl rfl rfl rfl)) (by exact (pa_cons (pe_glob (v := .int 6) rfl m6 ⟨_, rfl⟩) pa_nil))))
      (pss_one (ps_expr (pe_bm PySem.F.plainAttrs_list PySem.F.slot_list_append PySem.F.type_list_append mt_append (pv 3) (pa_cons (pe_tup (by exact (pa_cons (pv 5) (pa_cons (pe_meth0 (pv 0) T.cl M3.mt F3 hr b3 .nil pass0) pa_nil)))) pa_nil))))))
    (pss_one (ps_ret (pe_rec2 RS hr (pa_cons (pv 1) (pa_cons (pv 3) pa_nil)))))))), ?_⟩
  obtain ⟨s, dx, nb, i, ns, x, r, rfl, hs, hnb, hdr, hwo, kO, kE⟩ := h
  have nHs : H s ≠ none := by rw [hs]; exact fun z => by cases z
  have hnbs : nb ≠ s := fun z => by rw [z, hs] at hnb; cases hnb
  have hdr : ns.drop i = x.gap :: x.wants.length :: (x.wants.flatMap encWant ++ r) := hdr
  obtain ⟨d1, d2, d3⟩ := drop_two hdr
  have hi2 : i + 2 ≤ ns.length := by
    have := (List.getElem?_eq_some_iff.mp d2).1
    omega
  have g0 : Gw H s H := ⟨fun _ _ e => e, nHs⟩
  have hnbG : ∀ {H' : Hp}, Gw H s H' → H' nb = some (.lst (nis ns)) := fun {H'} g => Off.same _ _ (g.sm _ _ (by rw [Off.ne hnbs]; exact hnb))
  -- gap
  refine ⟨_, rfl, s, dx, _, rfl, hs, rfl, s, dx, nb, i, x.gap, 30, ns, rfl, hs, hnb, d1, fun c1 => ?_, fun c1 => kE (stepOk_gap c1) _ g0.upd.sm⟩
  have g1 : Gw H s (upd H s (srcO A dx nb (i + 1))) := g0.upd
  have hs1 : upd H s (srcO A dx nb (i + 1)) s = some (srcO A dx nb (i + 1)) := upd_same
  generalize upd H s (srcO A dx nb (i + 1)) = H1 at *
  -- how many
  refine ⟨_, rfl, s, dx, _, rfl, hs1, rfl, s, dx, nb, i + 1, x.wants.length, 4, ns, rfl, hs1, hnbG g1, d2, fun c2 => ?_, fun c2 => kE (stepOk_len c2) _ g1.upd.sm⟩
  have g2 : Gw H s (upd H1 s (srcO A dx nb (i + 1 + 1))) := g1.upd
  have hs2 : upd H1 s (srcO A dx nb (i + 1 + 1)) s = some (srcO A dx nb (i + 2)) := upd_same
  generalize upd H1 s (srcO A dx nb (i + 1 + 1)) = H2 at *
  refine ⟨Nat.zero_le _, fun D nD => ?_⟩
  have s3 : Same H2 (upd H2 D (.lst [])) := Same.new nD
  have fD : H D = none := g2.free nD
  have hDs : D ≠ s := fun z => by rw [z, hs2] at nD; cases nD
  refine ⟨_, rfl, _, rfl, by omega, by omega, ?_⟩
  show ∃ W : Nat → Nat → L2.St → Hp → Prop, _
  refine for_it (walk_range (lo := 0) (n := x.wants.length)) (fun j σ H' => ∃ (v4 v5 : Option V) (ts : List Addr) (pos : Nat), σ = [some (.ref s), some (ni x.gap), some (ni x.wants.length), some (.ref D), v4, v5] ∧ Gw H s H' ∧ H' s = some (srcO A dx nb pos) ∧ H' D = some (.lst (ts.map V.ref)) ∧
    Paired (WtAt (Off (New H H') D)) ts (x.wants.take j) ∧ (∀ y ∈ x.wants.take j, y.kind ≤ 6) ∧ ns.drop pos = (x.wants.drop j).flatMap encWant ++ r ∧ pos = i + 2 + ((x.wants.take j).flatMap encWant).length ∧ pos ≤ ns.length) ?_ ?_ ?_ ?_
  · refine ⟨none, none, [], i + 2, rfl, g2.same s3, s3 _ _ hs2, upd_same, by rw [List.take_zero]; exact .nil, fun y hy => by simp at hy, ?_, ?_, hi2⟩
    · rw [List.drop_zero]
      exact d3
    · simp
  · exact fun _ _ _ _ _ => trivial
  · rintro j v σ Ha Hb hj ⟨v4, v5, ts, pos, rfl, g, h1, h2, pt, hk, hd, hp, hpl⟩ ⟨rfl, hv⟩
    have hw : x.wants[j]? = some x.wants[j] := List.getElem?_eq_getElem hj
    have hmem : x.wants[j] ∈ x.wants := List.getElem_mem _
    rw [List.drop_eq_getElem_cons hj] at hd
    have hdk : ∀ y : Sx05.Want, ns.drop pos = (y :: x.wants.drop (j + 1)).flatMap encWant ++ r → ns.drop pos = y.kind :: y.bytes.length :: (y.bytes ++ ((x.wants.drop (j + 1)).flatMap encWant ++ r)) := fun y h => by
      rw [h, List.flatMap_cons]
      show (y.kind :: y.bytes.length :: y.bytes) ++ _ ++ r = _
      simp
    have hd := hdk _ hd
    have tk : x.wants.take (j + 1) = x.wants.take j ++ [x.wants[j]] := by rw [List.take_add_one, hw]; rfl
    generalize x.wants[j] = y at *
    obtain ⟨q1, q2, q3⟩ := drop_two hd
    have hp2 : pos + 2 ≤ ns.length := by
      have := (List.getElem?_eq_some_iff.mp q2).1
      omega
    have hp3 := drop_len q3 hp2
    refine ⟨_, rfl, s, dx, _, rfl, h1, rfl, s, dx, nb, pos, y.kind, 6, ns, rfl, h1, hnbG g, q1, fun c3 => ?_, fun c3 => kE (stepOk_kind hmem c3) _ g.upd.sm⟩
    have g4 : Gw H s (upd Hb s (srcO A dx nb (pos + 1))) := g.upd
    have hs4 : upd Hb s (srcO A dx nb (pos + 1)) s = some (srcO A dx nb (pos + 1)) := upd_same
    have hD4 : upd Hb s (srcO A dx nb (pos + 1)) D = some (.lst (ts.map V.ref)) := by rw [upd_ne hDs]; exact h2
    have n4 : Same (New H Hb) (New H (upd Hb s (srcO A dx nb (pos + 1)))) := by rw [New.old nHs]; exact fun _ _ e => e
    generalize upd Hb s (srcO A dx nb (pos + 1)) = H4 at *
    refine ⟨_, rfl, .inl ⟨rfl, _, .of hD4⟩, _, rfl, _, rfl, s, dx, _, rfl, hs4, rfl, s, dx, nb, pos + 1, y.bytes.length, ns, rfl, hs4, hnbG g4, q2, by omega, fun H5 t sm5 hs5 nt ht => ?_⟩
    have eb : (ns.drop (pos + 1 + 1)).take y.bytes.length = y.bytes := by
      rw [show pos + 1 + 1 = pos + 2 by omega, q3, List.take_left']
      rfl
    rw [eb] at ht
    have g5 : Gw H s H5 := ⟨g4.sm.trans sm5, by rw [hs5]; exact fun z => by cases z⟩
    have n45 : Same (New H Hb) (New H H5) := n4.trans (newOff nHs sm5)
    have hD5 : H5 D = some (.lst (ts.map V.ref)) := Off.same _ _ (sm5 _ _ (by rw [Off.ne hDs]; exact hD4))
    have ft : H t = none := g4.free nt
    have htD : t ≠ D := fun z => by rw [z, hD4] at nt; cases nt
    refine ⟨by show 2 ≤ sizeLine; decide, fun U nU => ?_⟩
    have s6 : Same H5 (upd H5 U (.tup [ni y.kind, .ref t])) := Same.new nU
    have hUD : U ≠ D := fun z => by rw [z, hD5] at nU; cases nU
    have fU : H U = none := g5.free nU
    have lt := Paired.length pt
    refine ⟨D, _, _, rfl, rfl, s6 _ _ hD5, ?_, ?_⟩
    · rw [List.length_map, lt, List.length_take, sizeLine_eq]
      omega
    refine ⟨_, _, ts ++ [U], pos + 1 + 1 + y.bytes.length, rfl, (g5.same s6).put fD hDs, ?_, ?_, ?_, ?_, ?_, ?_, ?_⟩
    · rw [upd_ne (Ne.symm hDs)]
      exact s6 _ _ hs5
    · rw [upd_same, List.map_append]
      rfl
    · rw [New.off, tk]
      refine paired_snoc (Paired.mapP pt fun _ _ z => z.same (Off.mono (n45.trans (New.mono s6)))) ⟨t, ?_, ?_⟩
      · rw [Off.ne hUD, New.at fU]
        exact upd_same
      · rw [Off.ne htD, New.at ft]
        exact s6 _ _ ht
    · rw [tk]
      intro z hz
      rcases List.mem_append.mp hz with hz | hz
      · exact hk z hz
      · rw [List.mem_singleton.mp hz]
        exact c3
    · have e : ns.drop (pos + 1 + 1 + y.bytes.length) = (ns.drop (pos + 2)).drop y.bytes.length := by rw [List.drop_drop]
      rw [e, q3, List.drop_left']
      rfl
    · rw [tk, List.flatMap_append, List.length_append, hp]
      have : ([y].flatMap encWant).length = y.bytes.length + 2 := by
        show ((y.kind :: y.bytes.length :: y.bytes) ++ []).length = _
        simp
      rw [this]
      omega
    · omega
  rintro σ H3 ⟨v4, v5, ts, pos, rfl, g, h1, h2, pt, hk, hd, hp, hpl⟩
  rw [List.take_length] at pt hk hp
  refine ⟨_, rfl, _, rfl, fun a da na nda ne => ?_⟩
  have s4 : Same H3 (recH H3 A.Step a da [("gap", ni x.gap), ("wanted", .ref D)]) := Same.recH na nda
  have g4 := g.same s4
  refine kO (stepOk_yes c1 c2 hk) _ a g4.sm ?_ ⟨da, D, ?_, ts, ?_, Paired.mapP pt fun _ _ z => z.same (Off.same.trans (New.mono s4))⟩
  · rw [s4 _ _ h1, hp]
    have e : (encStep x).length = (x.wants.flatMap encWant).length + 2 := rfl
    rw [e, show i + 2 + (x.wants.flatMap encWant).length = i + ((x.wants.flatMap encWant).length + 2) by omega]
  · rw [New.at (g.free na)]
    exact recH_at
  · rw [New.at fD]
    exact s4 _ _ h2
end
end G

end

section
set_option Elab.async false
set_option linter.all false
set_option maxRecDepth 100000
set_option maxHeartbeats 4000000
namespace G
open PySem PySem.Spec PyProof.Rows L2 GR
structure SrM (P : Program) (w : World) (K : PySem.W.Frag) (mg : Str → Option Value) (base : Heap) (A : Adr) : Prop where
  ex : ∃ (fI : Addr) (fd : FuncData), Mk K A.Source fI ∧ FnOk P w K mg base CX0 1 fI fd ["self", "numbers"] (spSrcI A) ∧ Binds K fd ["self", "numbers"] []
  gl : mg "Source" = some (.ref A.Source)
def teStep (A : Adr) (Ec : XK) : TE := fun σ H Q => (tCons (tVar 1) tNil) σ H fun vs H1 => spStepOf A vs H1 Q Ec
theorem goodQ_long {q : List Sx05.Step} (h : 4 < q.length) : goodQ q = false := by
  unfold goodQ
  rw [decide_eq_false (p := q.length ≤ 4) (by omega), Bool.false_and, Bool.and_false]
theorem goodQ_none {q : List Sx05.Step} (h : q.length = 0) : goodQ q = false := by
  unfold goodQ
  rw [decide_eq_false (p := 1 ≤ q.length) (by omega), Bool.false_and]
theorem goodQ_bad {q : List Sx05.Step} {x : Sx05.Step} (hx : x ∈ q) (h : Sx05.stepOk x = false) : goodQ q = false := by
  unfold goodQ
  have e : q.all Sx05.stepOk = false := by
    cases z : q.all Sx05.stepOk with
    | false => rfl
    | true =>
      have := List.all_eq_true.mp z x hx
      rw [h] at this
      cases this
  rw [e, Bool.and_false, Bool.and_false]
theorem goodQ_yes {q : List Sx05.Step} (h1 : q.length ≠ 0) (h2 : q.length ≤ 4) (h3 : ∀ x ∈ q, Sx05.stepOk x = true) : goodQ q = true := by
  unfold goodQ
  rw [decide_eq_true (p := 1 ≤ q.length) (by omega), decide_eq_true h2, Bool.true_and, Bool.true_and]
  exact List.all_eq_true.mpr h3
section
variable {P : Program} {w : World} {K : PySem.W.Frag} {mg : Str → Option Value} {base : Heap} {A : Adr} {f1 f2 f3 f4 : Addr}
abbrev nSo : List Str := ["numbers", "source", "amount", "count"]
theorem sc_steps_of : FnScope nSo ["numbers"] (defScope s_steps_of) := ⟨rfl, rfl, rfl, by decide +kernel, rfl, by decide +kernel, by decide +kernel⟩
theorem ok_steps_of {f : Addr} {fd : FuncData} (F : Fun K "steps_of" "steps_of" s_steps_of f fd) (T : SrT K A) (B : BadT K mg A.BadSteps) (S : SrM P w K mg base A) (M2 : MDef P w K mg base (L2.CX P w) 2 "take_up_to" A.Source f2 ["self", "most"] (spTakeUp A)) (D1 : Def P w K mg base (L2.CX P w) 3 "step_of" f1 ["source"] (spStepOf A))
    (mR : mg "range" = none) {t4 : Tok} (m4 : mg "MOST_STEPS" = some (.int 4 t4)) : FnOk P w K mg base (L2.CX P w) 4 f fd ["numbers"] (spSteps A) := by
  refine F.okX sc_steps_of (fun vs H Q E h => ?_) (fun cdv Ar outer s H vs Q E hr h => ?_)
  · obtain ⟨nb, q, rfl, _⟩ := h
    rfl
  have pc : ∀ {X : Cx}, (tk : Takes X fun cls d _ H => E cls d H) → Passes (L2.CX X.prog X.w) X E := fun tk => passes_call tk fun _ _ _ _ z => z
  obtain ⟨fd2, F2, b2⟩ := M2.ex
  obtain ⟨fI, fdI, MI, FI, bI⟩ := S.ex
  refine ⟨_, pss_cons (ps_set (i := 1) sc_steps_of.nd rfl (.inr rfl) (pe_make MI FI (hr.mono (by decide)) rfl S.gl bI .nil pass0 (by exact (pa_cons (pv 0) pa_nil))))
    (pss_cons (ps_set (i := 2) sc_steps_of.nd rfl (.inl rfl) (pe_meth (pv 1) T.cl M2.mt F2 (hr.mono (by decide)) b2 .nil (pc (takes_of rfl rfl rfl rfl)) (by exact (pa_cons (pe_glob (v := .int 4) rfl m4 ⟨_, rfl⟩) pa_nil))))
    (pss_cons (ps_if (pt_cmpR op_eq (pv 2) pe_int (nomark _)) (pss_one (ps_raise rfl (takes_of rfl rfl rfl rfl) (pmk_own0 PySem.F.excBase_Exception B.xc B.gl B.kc (raises_own B.bc B.tc) rfl))) pss_nil)
    (pss_one (ps_ret (pe_lcx (own := [("count", 3)]) (g := gName 3) (te := teStep A) rfl rfl rfl (takes_of rfl rfl rfl rfl) sc_steps_of.nd (pi_range1 (by rfl) mR (by exact (pa_cons (pv 2) pa_nil))) (blkOk_by (N := nSo) (sc := defScope s_steps_of) (by decide +kernel))
      (fun _ _ _ _ _ => pg_name (i := 3) sc_steps_of.nd rfl (Or.inl rfl)) (fun _ _ _ _ _ _ _ hps => by exact (pe_def D1 hr hps (pa_cons (pv 1) pa_nil)))))))), ?_⟩
  obtain ⟨nb, q, rfl, hnb, hwo, kO, kE⟩ := h
  refine ⟨_, rfl, fun s dx ns nd ne => ?_⟩
  show spSrcI A [.ref s, .ref nb] _ _ _
  refine ⟨s, dx, nb, rfl, upd_same, rfl, ?_⟩
  rw [upd_upd]
  have s1 : Same H (upd (upd H dx (.own s)) s (srcO A dx nb 0)) := Same.recH (C := A.Source) (fs := [("numbers", .ref nb), ("at", ni 0)]) ns nd
  have hs1 : upd (upd H dx (.own s)) s (srcO A dx nb 0) s = some (srcO A dx nb 0) := upd_same
  generalize upd (upd H dx (.own s)) s (srcO A dx nb 0) = H1 at *
  have e0 : (encFind q)[0]? = some q.length := rfl
  refine ⟨_, rfl, s, dx, _, rfl, hs1, rfl, s, dx, nb, 0, q.length, 4, _, rfl, hs1, s1 _ _ hnb, e0, fun c1 => ?_, fun c1 => kE (goodQ_long c1) _ (Same.put s1 ns)⟩
  have s2 : Same H (upd H1 s (srcO A dx nb (0 + 1))) := Same.put s1 ns
  have hs2 : upd H1 s (srcO A dx nb (0 + 1)) s = some (srcO A dx nb 1) := upd_same
  generalize upd H1 s (srcO A dx nb (0 + 1)) = H2 at *
  refine ⟨_, rfl, rfl, _, rfl, ?_⟩
  by_cases c2 : q.length = 0
  · refine if_true_of (decide_eq_true (by rw [c2]; rfl)) ?_
    exact kE (goodQ_none c2) _ s2
  refine if_false_of (decide_eq_false fun z => c2 (by have := V.int.inj z; omega)) ?_
  refine ⟨_, rfl, _, rfl, by omega, by omega, fun D nD => ?_⟩
  have fD : H D = none := s2.free nD
  have hDs : D ≠ s := fun z => by rw [z, hs2] at nD; cases nD
  have sD : Same H2 (upd H2 D (.lst [])) := Same.new nD
  show ∃ W : Nat → Nat → Hp → Prop, _
  refine lc_it (walk_range (lo := 0) (n := q.length)) (fun j H' => ∃ (as : List Addr) (pos : Nat), Same H H' ∧ H' s = some (srcO A dx nb pos) ∧ H' D = some (.lst (as.map V.ref)) ∧ Paired (StepAt A (Hd (And1 (fun b => b = s) D) H')) as (q.take j) ∧ (encFind q).drop pos = (q.drop j).flatMap encStep ∧ ∀ y ∈ q.take j, Sx05.stepOk y = true) ?_ ?_ ?_ ?_
  · exact ⟨[], 1, s2.trans sD, sD _ _ hs2, upd_same, by rw [List.take_zero]; exact .nil, rfl, fun y hy => by simp at hy⟩
  · exact fun _ _ _ _ => trivial
  · rintro j v Ha Hb hj ⟨as, pos, s3, h1, h2, pa, hd, hg⟩ ⟨rfl, hv⟩
    have hx : q[j]? = some q[j] := List.getElem?_eq_getElem hj
    have hm : q[j] ∈ q := List.getElem_mem _
    rw [List.drop_eq_getElem_cons hj, List.flatMap_cons] at hd
    have tk : q.take (j + 1) = q.take j ++ [q[j]] := by rw [List.take_add_one, hx]; rfl
    generalize q[j] = x at *
    refine ⟨rfl, yes_of ?_⟩
    refine ⟨_, rfl, s, dx, nb, pos, encFind q, x, _, rfl, h1, s3 _ _ hnb, hd, hwo x hm, fun ho Hc a sm hs5 ha => ?_, fun ho Hc sm => ?_⟩
    · have s5 : Same H Hc := fun b o e => by
        have hb : b ≠ s := ne_of_none e ns
        exact Off.same _ _ (sm b o (by rw [Off.ne hb]; exact s3 _ _ e))
      have hD5 : Hc D = some (.lst (as.map V.ref)) := Off.same _ _ (sm _ _ (by rw [Off.ne hDs]; exact h2))
      have m5 : Same (Hd (And1 (fun b => b = s) D) Hb) (Hd (And1 (fun b => b = s) D) Hc) := fun b o e => by
        obtain ⟨g1, g2⟩ := Hd.inv e
        have hb : b ≠ s := fun z => g1 (.inl z)
        exact Hd.of g1 (Off.same _ _ (sm b o (by rw [Off.ne hb]; exact g2)))
      have la := Paired.length pa
      refine ⟨_, hD5, ?_, as ++ [a], pos + (encStep x).length, Same.put s5 fD, ?_, ?_, ?_, ?_, ?_⟩
      · rw [List.length_map, la, List.length_take, sizeLine_eq]
        omega
      · rw [upd_ne (Ne.symm hDs)]
        exact hs5
      · rw [upd_same, List.map_append]
        rfl
      · rw [Hd.updS (.inr rfl), tk]
        refine paired_snoc (Paired.mapP pa fun _ _ z => z.same m5) (ha.same (Hd.new ?_))
        rintro b (rfl | rfl)
        · rw [h1]
          exact fun z => by cases z
        · rw [h2]
          exact fun z => by cases z
      · rw [← List.drop_drop, hd, List.drop_left']
        rfl
      · rw [tk]
        intro y hy
        rcases List.mem_append.mp hy with hy | hy
        · exact hg y hy
        · rw [List.mem_singleton.mp hy]
          exact ho
    · refine kE (goodQ_bad hm ho) _ fun b o e => ?_
      have hb : b ≠ s := ne_of_none e ns
      exact Off.same _ _ (sm b o (by rw [Off.ne hb]; exact s3 _ _ e))
  rintro H3 ⟨as, pos, s3, h1, h2, pa, hd, hg⟩
  rw [List.take_length] at pa hg
  exact kO (goodQ_yes c2 c1 hg) _ D s3 ⟨as, h2, Paired.mapP pa fun _ _ z => z.same Hd.sub⟩
/-! ### fits -/
def kindsOk (x : Sx05.Step) : Prop := x.wants.length ≤ 4 ∧ ∀ y ∈ x.wants, y.kind ≤ 6
theorem kinds_of {x : Sx05.Step} (h : Sx05.stepOk x = true) : kindsOk x ∧ x.gap ≤ 30 := by
  unfold Sx05.stepOk at h
  simp only [Bool.and_eq_true, decide_eq_true_eq] at h
  exact ⟨⟨h.2.1, fun y hy => of_decide_eq_true (List.all_eq_true.mp h.2.2 y hy)⟩, h.1⟩
def spFits (A : Adr) : Sp := fun vs H Q _ => ∃ (t a : Addr) (y : Wd) (x : Sx05.Step), vs = [.ref t, .ref a] ∧ TrAt H t y ∧ StepAt A H a x ∧ kindsOk x ∧ ∀ H', Same H H' → Q (.bl (x.holds y)) H'
abbrev nFi : List Str := ["traits", "step", "kind", "signs"]
theorem sc_fits : FnScope nFi ["traits", "step"] (defScope s_fits) := ⟨rfl, rfl, rfl, by decide +kernel, rfl, by decide +kernel, by decide +kernel⟩
theorem ok_fits {f : Addr} {fd : FuncData} (F : Fun K "fits" "fits" s_fits f fd) (RS : Rec2 P w K mg base "Step" A.Step "gap" "wanted") (D1 : Def P w K mg base CX0 1 "has_trait" f1 ["traits", "kind", "signs"] spTrait) (mA : mg "all" = none) : FnOk P w K mg base CX0 2 f fd ["traits", "step"] (spFits A) := by
  refine F.ok sc_fits (fun vs H Q E h => ?_) (fun cdv Ar outer s H vs Q E hr h => ?_)
  · obtain ⟨t, a, y, x, rfl, _⟩ := h
    rfl
  refine ⟨_, pss_one (ps_ret (pe_callB (cr_all rfl) (by rfl) mA (by decide +kernel) (by exact (pa_cons (pe_lc (own := [("kind", 2), ("signs", 3)]) (g := gTup K 2 (gCons (gName 2) (gCons (gName 3) gNil))) (tt := tYes) (te := teCall spTrait (tCons (tVar 0) (tCons (tVar 2) (tCons (tVar 3) tNil)))) rfl sc_fits.nd
      (pi_list (pe_fld (pv 1) rfl)) (blkOk_by (N := nFi) (sc := defScope s_fits) (by decide +kernel)) (fun _ _ _ _ _ => by exact (pg_tup rfl (pgs_cons (pg_name (i := 2) sc_fits.nd rfl (Or.inl rfl)) (pgs_cons (pg_name (i := 3) sc_fits.nd rfl (Or.inl rfl)) pgs_nil)))) (fun _ _ _ _ _ => pts_nil)
      (fun _ _ _ _ _ => by exact (pe_def D1 hr pass0 (pa_cons (pv 0) (pa_cons (pv 2) (pa_cons (pv 3) pa_nil)))))) pa_nil)))), ?_⟩
  obtain ⟨t, a, y, x, rfl, ht, ⟨dx, p, ea, ⟨ts, hp, pt⟩⟩, ⟨hl, hk⟩, k⟩ := h
  have lt := Paired.length pt
  refine ⟨_, rfl, a, A.Step, dx, _, _, rfl, ea, RS.cl, RS.n2, lk2 RS.ne, p, rfl, ⟨_, .of hp⟩, fun D nD => ?_⟩
  have sN : ∀ {o}, Same H (upd H D o) := Same.new nD
  refine lc_it (walk_list (K := K) (a := p) (xs := ts.map V.ref)) (fun i H' => H' = upd H D (.lst ((x.wants.take i).map fun z => V.bl (z.holds y)))) rfl ?_ ?_ ?_
  · rintro i H' hi rfl
    exact .of (sN _ _ hp)
  · rintro i v H1 H2 hi rfl ⟨rfl, hv⟩
    rw [List.getElem?_map] at hv
    obtain ⟨c, hc1, rfl⟩ := Option.map_eq_some_iff.mp hv
    obtain ⟨z, hz1, b, e1, e2⟩ := paired_get pt hc1
    refine ⟨c, _, rfl, .of (sN _ _ e1), rfl, _, _, rfl, _, _, rfl, rfl, rfl, yes_of ?_⟩
    refine ⟨_, rfl, _, rfl, _, rfl, t, b, y, z.kind, z.bytes, rfl, ht.same sN, hk z (List.mem_of_getElem? hz1), sN _ _ e2, _, upd_same, ?_, ?_⟩
    · rw [List.length_map, List.length_take, sizeLine_eq]
      omega
    · rw [upd_upd, List.take_add_one, hz1, List.map_append]
      rfl
  rintro H1 rfl
  have e : x.wants.take (ts.map V.ref).length = x.wants := List.take_of_length_le (by rw [List.length_map]; omega)
  rw [e]
  refine ⟨D, x.wants.map fun z => z.holds y, rfl, .of ?_, ?_⟩
  · rw [upd_same, List.map_map]
    rfl
  · have e2 : ((x.wants.map fun z => z.holds y).all id) = x.holds y := by
      rw [List.all_map]
      rfl
    rw [e2]
    exact k _ sN
end
end G

end

section
set_option Elab.async false
set_option linter.all false
set_option maxRecDepth 100000
set_option maxHeartbeats 4000000
namespace G
open PySem PySem.Spec PyProof.Rows L2 GR
abbrev rAddI : R2 := rI0 fun i j => .int (i + j)
theorem cutV_any (l : Bytes) (a b : Nat) (hab : a ≤ b) : cutV (nis l) (some (a : Int)) (some (b : Int)) = nis ((l.take b).drop a) := by
  unfold cutV
  rw [HT.sIx_nat, HT.sIx_nat, nis_length]
  unfold nis
  rw [← List.map_drop, ← List.map_take]
  congr 1
  by_cases h1 : b ≤ l.length
  · rw [Nat.min_eq_left (a := a) (by omega), Nat.min_eq_left h1, List.drop_take]
  · rw [List.take_of_length_le (l := l) (i := b) (by omega), Nat.min_eq_right (a := b) (by omega)]
    by_cases h2 : a ≤ l.length
    · rw [Nat.min_eq_left h2, List.take_of_length_le (by rw [List.length_drop]; exact Nat.le_refl _)]
    · rw [Nat.min_eq_right (by omega), List.drop_eq_nil_of_le (Nat.le_refl _), List.drop_eq_nil_of_le (by omega), List.take_nil]
theorem minI : ∀ (r : List Nat) (n : Nat), (r.map fun x : Nat => (x : Int)).foldl min (n : Int) = ((r.foldl min n : Nat) : Int)
  | [], _ => rfl
  | a :: r, n => by
    have ih := minI r (min n a)
    show (r.map fun x : Nat => (x : Int)).foldl min (min (n : Int) (a : Int)) = _
    rw [show min (n : Int) (a : Int) = ((min n a : Nat) : Int) by omega, ih]
    rfl
theorem min_of {K : PySem.W.Frag} {H : Hp} {q : Addr} {W : List Nat} {n : Nat} {Q : VK} (hq : H q = some (.lst (nis W))) (k : Q (ni (minD W n)) H) : rMinD K [.ref q] [ni n] H Q := by
  refine ⟨q, W.map fun x : Nat => (x : Int), ni n, rfl, rfl, .of ?_, fun h => ?_, fun m r h => ?_⟩
  · rw [hq, List.map_map]
    rfl
  · have : W = [] := List.map_eq_nil_iff.mp h
    subst this
    exact k
  · cases W with
    | nil => cases h
    | cons a W =>
      rw [List.map_cons] at h
      obtain ⟨rfl, rfl⟩ := List.cons.inj h
      rw [minI]
      exact k
def spEnds (A : Adr) : Sp := fun vs H Q _ => ∃ (p st : Addr) (ws : List Wd) (x : Sx05.Step) (r : List Sx05.Step), vs = [.ref p, .ref st] ∧ TrWs H p ws ∧ StepsAt A H st (x :: r) ∧ (∀ y ∈ x :: r, kindsOk y) ∧ ws.length ≤ 30 ∧
  ∀ H' e, Same H H' → H e = none → H' e = some (.lst (nis (endsL ws x r))) → Q (.ref e) H'
theorem rchd_map (ws : List Wd) (r : List Sx05.Step) (j : Nat) (h : j < ws.length) : ((List.range ws.length).map (rchd ws r))[j]? = some (rchd ws r j) := by
  rw [List.getElem?_map, List.getElem?_range h]
  rfl
section
variable {P : Program} {w : World} {K : PySem.W.Frag} {mg : Str → Option Value} {base : Heap} {A : Adr} {f1 f2 f3 f4 : Addr}
abbrev nEn : List Str := ["words", "steps", "nowhere", "ends", "reached", "step", "word", "end", "at"]
theorem sc_ends_of : FnScope nEn ["words", "steps"] (defScope s_ends_of) := ⟨rfl, rfl, rfl, by decide +kernel, rfl, by decide +kernel, by decide +kernel⟩
theorem ok_ends_of {f : Addr} {fd : FuncData} (F : Fun K "ends_of" "ends_of" s_ends_of f fd) (RS : Rec2 P w K mg base "Step" A.Step "gap" "wanted") (D1 : Def P w K mg base CX0 2 "fits" f1 ["traits", "step"] (spFits A)) (mLen : mg "len" = none) (mL : mg "list" = none) (mR : mg "range" = none) (mV : mg "reversed" = none) (mZ : mg "zip" = none) (mM : mg "min" = none) :
    FnOk P w K mg base CX0 3 f fd ["words", "steps"] (spEnds A) := by
  refine F.ok sc_ends_of (fun vs H Q E h => ?_) (fun cdv Ar outer s H vs Q E hr h => ?_)
  · obtain ⟨p, st, ws, x, r, rfl, _⟩ := h
    rfl
  refine ⟨_, pss_cons (ps_set (i := 2) sc_ends_of.nd rfl (.inr rfl) (pe_callB call_len_seq (by rfl) mLen PySem.boot_len (by exact (pa_cons (pv 0) pa_nil))))
    (pss_cons (ps_set (i := 3) sc_ends_of.nd rfl (.inr rfl) (pe_lst pa_nil))
    (pss_cons (ps_set (i := 4) sc_ends_of.nd rfl (.inl rfl) (pe_listRg rfl (by rfl) mL (prg_1 (by rfl) mR (pv 2))))
    (pss_cons (ps_for PassesOwn.never rfl (pi_reversed (by rfl) mV (by exact (pa_cons (pv 1) pa_nil))) (pg_name (i := 5) sc_ends_of.nd rfl (.inr rfl))
      (pss_cons (ps_set (i := 3) sc_ends_of.nd rfl (.inr rfl) (pe_lc (own := [("word", 6), ("end", 7)]) (g := gTup K 2 (gCons (gName 6) (gCons (gName 7) gNil))) (tt := tYes) (te := tIf (tB (teCall (spFits A) (tCons (tVar 6) (tCons (tVar 5) tNil)))) (tVar 7) (tVar 2)) rfl sc_ends_of.nd
        (pi_zip (by rfl) mZ (by exact (pa_cons (pv 0) (pa_cons (pv 4) pa_nil)))) (blkOk_by (N := nEn) (sc := defScope s_ends_of) (by decide +kernel)) (fun _ _ _ _ _ => by exact (pg_tup rfl (pgs_cons (pg_name (i := 6) sc_ends_of.nd rfl (Or.inl rfl)) (pgs_cons (pg_name (i := 7) sc_ends_of.nd rfl (Or.inl rfl)) pgs_nil)))) (fun _ _ _ _ _ => pts_nil)
        (fun _ _ _ _ _ => by exact (pe_ifExp (pt_val (pe_def D1 hr pass0 (pa_cons (pv 6) (pa_cons (pv 5) pa_nil)))) (pv 7) (pv 2)))))
      (pss_one (ps_setLc (i := 4) (own := [("at", 8)]) (g := gName 8) (tt := tYes) (te := tCKw (rMinD K) (tCons (tSl (rSlL K) (tVar 3) (tPart (tOp rAddI (tVar 8) (tC (.int 1)))) (tPart (tOp rAddI (tOp rAddI (tVar 8) (tC (.int 2))) (tFld K (tVar 5) "gap")))) tNil) (tCons (tVar 2) tNil)) rfl sc_ends_of.nd rfl rfl (sw_true rfl rfl rfl (by decide +kernel))
        (pi_range1 (by rfl) mR (by exact (pa_cons (pv 2) pa_nil))) (blkOk_by (N := nEn) (sc := defScope s_ends_of) (by decide +kernel)) (fun _ _ _ _ _ => pg_name (i := 8) sc_ends_of.nd rfl (Or.inl rfl)) (fun _ _ _ _ _ => pts_nil)
        (fun _ _ _ _ _ => by exact (pe_callBK (cr_minD rfl hr) (by rfl) mM (by decide +kernel) (by exact (pa_cons (pe_slice sl_list (pv 3) (po_some (pe_op op_add (pv 8) pe_int)) (po_some (pe_op op_add (pe_op op_add (pv 8) pe_int) (pe_fld (pv 5) rfl)))) pa_nil)) (pk_cons (pv 2) pk_nil)))))))
    (pss_one (ps_ret (pv 3)))))), ?_⟩
  obtain ⟨p, st, ws, x, r, rfl, ⟨as, hp, pa⟩, ⟨ss, hst, ps⟩, hkd, hl, k⟩ := h
  have la := Paired.length pa
  have ls := Paired.length ps
  refine ⟨_, rfl, p, _, rfl, .inl (.of hp), ?_⟩
  rw [List.length_map, la]
  refine ⟨Nat.zero_le _, fun E0' n0 => ?_⟩
  have s1 : Same H (upd H E0' (.lst [])) := Same.new n0
  generalize upd H E0' (.lst []) = H1 at *
  refine ⟨_, rfl, _, rfl, RgOk.of_le (by decide) (by omega) (by decide) (by omega), fun R0 nR0 => ?_⟩
  have er : rgV 0 (ws.length : Int) = nis ((List.range ws.length).map (rchd ws [])) := by
    unfold rgV nis
    rw [List.map_map]
    have e : ((ws.length : Int) - 0).toNat = ws.length := by omega
    rw [e]
    refine List.map_congr_left fun i _ => ?_
    show V.int (0 + (i : Int)) = ni (rchd ws [] i)
    rw [rchd_nil, Int.zero_add]
  rw [er]
  have s2 : Same H1 (upd H1 R0 (.lst (nis ((List.range ws.length).map (rchd ws []))))) := Same.new nR0
  have hR0 : upd H1 R0 (.lst (nis ((List.range ws.length).map (rchd ws [])))) R0 = some (.lst (nis ((List.range ws.length).map (rchd ws [])))) := upd_same
  generalize upd H1 R0 (.lst (nis ((List.range ws.length).map (rchd ws [])))) = H2 at *
  have s02 := s1.trans s2
  refine ⟨_, rfl, st, _, rfl, .of (s02 _ _ hst), ?_⟩
  refine for_it (walk_rev (K := K) (a := st) (xs := ss.map V.ref)) (fun t σ H' => ∃ (v5 : Option V) (E R : Addr), σ = [some (.ref p), some (.ref st), some (ni ws.length), some (.ref E), some (.ref R), v5, none, none, none] ∧ Same H H' ∧ H E = none ∧
    H' R = some (.lst (nis ((List.range ws.length).map (rchd ws ((x :: r).drop ((x :: r).length - t)))))) ∧ ∀ y q, (x :: r).drop ((x :: r).length - t) = y :: q → H' E = some (.lst (nis (endsL ws y q)))) ?_ ?_ ?_ ?_
  · refine ⟨none, E0', R0, rfl, s02, n0, ?_, fun y q h => ?_⟩
    · rw [Nat.sub_zero, List.drop_length]
      exact hR0
    · rw [Nat.sub_zero, List.drop_length] at h
      cases h
  · rintro t σ H' ht ⟨v5, E, R, _, s3, _⟩
    exact .of (s3 _ _ hst)
  · rintro t v σ Ha Hb ht ⟨v5, E, R, rfl, s3, nE, hR, hE⟩ ⟨rfl, hv⟩
    rw [List.length_map] at ht hv
    rw [List.getElem?_map] at hv
    obtain ⟨a, ha1, rfl⟩ := Option.map_eq_some_iff.mp hv
    obtain ⟨y, hy1, hy2⟩ := paired_get ps ha1
    have hyk := hkd y (List.mem_of_getElem? hy1)
    rw [ls] at ht hy1
    have hdr : (x :: r).drop ((x :: r).length - (t + 1)) = y :: (x :: r).drop ((x :: r).length - t) := by
      have h1 : (x :: r).length - (t + 1) < (x :: r).length := by omega
      rw [List.drop_eq_getElem_cons h1, show (x :: r).length - (t + 1) + 1 = (x :: r).length - t by omega]
      congr 1
      have e : (x :: r).length - 1 - t = (x :: r).length - (t + 1) := by omega
      rw [e, List.getElem?_eq_getElem h1] at hy1
      exact Option.some.inj hy1
    generalize hq : (x :: r).drop ((x :: r).length - t) = q at *
    clear hE
    -- ends
    refine ⟨_, rfl, _, rfl, p, R, _, _, rfl, .of (s3 _ _ hp), .of hR, fun D nD => ?_⟩
    have sD : Same Hb (upd Hb D (.lst [])) := Same.new nD
    have hRl : (nis ((List.range ws.length).map (rchd ws q))).length = ws.length := by rw [nis_length, List.length_map, List.length_range]
    refine lc_it (walk_zip (K := K) (a := p) (b := R) (xs := as.map V.ref) (ys := nis ((List.range ws.length).map (rchd ws q))) (n := ws.length) (by rw [List.length_map, hRl, la, Nat.min_self])) (fun i H' => Same Hb H' ∧ H' D = some (.lst (nis ((endsL ws y q).take i)))) ?_ ?_ ?_ ?_
    · exact ⟨sD, upd_same⟩
    · rintro i H' hi ⟨s4, _⟩
      exact ⟨.of ((s3.trans s4) _ _ hp), .of (s4 _ _ hR)⟩
    · rintro i v Hc Hd' hi ⟨s4, hD⟩ ⟨T, v1, v2, rfl, nT, rfl, e1, e2⟩
      have e1 : (as.map V.ref)[i]? = some v1 := e1
      rw [List.getElem?_map] at e1
      obtain ⟨b, hb1, rfl⟩ := Option.map_eq_some_iff.mp e1
      obtain ⟨wd, hw1, hw2⟩ := paired_get pa hb1
      obtain ⟨n, hn1, rfl⟩ := nis_get e2
      rw [rchd_map ws q i hi] at hn1
      cases hn1
      have sT : Same Hc (upd Hc T (.tup [.ref b, ni (rchd ws q i)])) := Same.new nT
      have hT : upd Hc T (.tup [.ref b, ni (rchd ws q i)]) T = some (.tup [.ref b, ni (rchd ws q i)]) := upd_same
      generalize upd Hc T (.tup [.ref b, ni (rchd ws q i)]) = He at *
      have s5 := s4.trans sT
      refine ⟨T, _, rfl, .of hT, rfl, _, _, rfl, _, _, rfl, rfl, rfl, yes_of ?_⟩
      refine ⟨_, rfl, _, rfl, b, a, wd, y, rfl, hw2.same (s3.trans s5), hy2.same (s3.trans s5), hyk, fun Hf s6 => ⟨_, rfl, ?_⟩⟩
      have hD6 := s6 _ _ (sT _ _ hD)
      have hend : endAt ws y q i = if y.holds wd = true then rchd ws q i else ws.length := by
        unfold endAt
        rw [hw1]
      have fin : ∀ v : V, v = ni (endAt ws y q i) → ∃ acc, Hf D = some (.lst acc) ∧ acc.length < sizeLine ∧ (Same Hb (upd Hf D (.lst (acc ++ [v]))) ∧ upd Hf D (.lst (acc ++ [v])) D = some (.lst (nis ((endsL ws y q).take (i + 1))))) := fun v hv => by
        refine ⟨_, hD6, ?_, Same.put (s5.trans s6) nD, ?_⟩
        · rw [nis_length, List.length_take, sizeLine_eq]
          omega
        · rw [upd_same, List.take_add_one, endsL_get hi, hv]
          unfold nis
          rw [List.map_append]
          rfl
      by_cases hh : y.holds wd = true
      · refine if_true_of hh ?_
        rw [if_pos hh] at hend
        exact ⟨_, rfl, fin _ (by rw [hend])⟩
      · refine if_false_of (Bool.not_eq_true _ ▸ hh) ?_
        rw [if_neg hh] at hend
        exact ⟨_, rfl, fin _ (by rw [hend])⟩
    rintro H3 ⟨s4, hD⟩
    rw [List.take_of_length_le (by rw [endsL_len]; exact Nat.le_refl _)] at hD
    -- reached
    refine ⟨_, rfl, _, rfl, by omega, by omega, fun U nU => ?_⟩
    have sU : Same H3 (upd H3 U (.lst [])) := Same.new nU
    obtain ⟨dxs, pw, ea, _⟩ := id hy2
    have s34 := s3.trans s4
    show ∃ W : Nat → Nat → Hp → Prop, _
    refine lc_it (walk_range (lo := 0) (n := ws.length)) (fun i H' => Same H3 H' ∧ H' U = some (.lst (nis ((List.range i).map (rchd ws (y :: q)))))) ?_ ?_ ?_ ?_
    · exact ⟨sU, upd_same⟩
    · exact fun _ _ _ _ => trivial
    · rintro i v Hc Hd' hi ⟨s5, hU⟩ ⟨rfl, hv⟩
      have hv : v = ni i := by
        rw [hv]
        show V.int (0 + (i : Int)) = V.int _
        rw [Int.zero_add]
      subst hv
      refine ⟨rfl, yes_of ?_⟩
      refine ⟨_, rfl, _, rfl, _, _, rfl, rfl, _, rfl, _, rfl, _, _, rfl, rfl, _, rfl, a, A.Step, dxs, _, _, rfl, (s34.trans s5) _ _ ea, RS.cl, RS.n1, lk1, _, _, rfl, rfl, _, rfl, D, _, rfl, .of (s5 _ _ hD), fun z nz => ?_⟩
      have ec : cutV (nis (endsL ws y q)) (some ((i : Int) + 1)) (some ((i : Int) + 2 + (y.gap : Int))) = nis (((endsL ws y q).take (i + 2 + y.gap)).drop (i + 1)) := cutV_any _ (i + 1) (i + 2 + y.gap) (by omega)
      rw [ec]
      have s6 : Same Hd' (upd Hd' z (.lst (nis (((endsL ws y q).take (i + 2 + y.gap)).drop (i + 1))))) := Same.new nz
      have hz : upd Hd' z (.lst (nis (((endsL ws y q).take (i + 2 + y.gap)).drop (i + 1)))) z = some (.lst (nis (((endsL ws y q).take (i + 2 + y.gap)).drop (i + 1)))) := upd_same
      show tNil _ (upd Hd' z (.lst (nis (((endsL ws y q).take (i + 2 + y.gap)).drop (i + 1))))) _
      generalize upd Hd' z (.lst (nis (((endsL ws y q).take (i + 2 + y.gap)).drop (i + 1)))) = H6 at *
      refine ⟨_, rfl, ?_⟩
      unfold tNil
      refine min_of hz ?_
      rw [rchd_cons hi]
      refine ⟨_, s6 _ _ hU, ?_, Same.put (s5.trans s6) nU, ?_⟩
      · rw [nis_length, List.length_map, List.length_range, sizeLine_eq]
        omega
      · rw [upd_same, List.range_succ, List.map_append]
        unfold nis
        rw [List.map_append]
        rfl
    rintro H4 ⟨s5, hU⟩
    refine ⟨_, D, U, rfl, s34.trans s5, s3.free nD, ?_, fun y' q' h => ?_⟩
    · rw [hdr]
      exact hU
    · rw [hdr] at h
      cases h
      exact s5 _ _ hD
  · rintro σ H3 ⟨v5, E, R, rfl, s3, nE, hR, hE⟩
    refine ⟨_, rfl, k _ E s3 nE (hE x r ?_)⟩
    rw [List.length_map, ls, Nat.sub_self, List.drop_zero]
end
end G

end

section
set_option Elab.async false
set_option linter.all false
set_option maxRecDepth 100000
set_option maxHeartbeats 4000000
namespace G
open PySem PySem.Spec PyProof.Rows L2 GR
/-! ### places_of -/
abbrev T3 := Nat × Nat × Nat
abbrev t3V (t : T3) : List V := [ni t.1, ni t.2.1, ni t.2.2]
/-- what is found in an item -/
def fnd1 (x : Sx05.Step) (r : List Sx05.Step) (n : Nat) (ws : List Wd) (j : Nat) : List T3 := (List.range j).filterMap fun k => if endAt ws x r k < ws.length then some (n, k, endAt ws x r k) else none
theorem fnd1_succ (x : Sx05.Step) (r : List Sx05.Step) (n : Nat) (ws : List Wd) (j : Nat) : fnd1 x r n ws (j + 1) = fnd1 x r n ws j ++ if endAt ws x r j < ws.length then [(n, j, endAt ws x r j)] else [] := by
  unfold fnd1
  rw [List.range_succ, List.filterMap_append]
  congr 1
  by_cases h : endAt ws x r j < ws.length
  · rw [if_pos h, List.filterMap_cons]
    simp [h]
  · rw [if_neg h, List.filterMap_cons]
    simp [h]
def fndT (x : Sx05.Step) (r : List Sx05.Step) (l : List Sx05.Item) (i : Nat) : List T3 := (l.zipIdx.take i).flatMap fun y => fnd1 x r y.2 y.1.words y.1.words.length
theorem fndT_succ {x : Sx05.Step} {r : List Sx05.Step} {l : List Sx05.Item} {i : Nat} {y : Sx05.Item} (h : l[i]? = some y) : fndT x r l (i + 1) = fndT x r l i ++ fnd1 x r i y.words y.words.length := by
  unfold fndT
  have e : l.zipIdx[i]? = some (y, i) := by
    rw [List.getElem?_zipIdx, h]
    simp
  rw [List.take_add_one, e, List.flatMap_append]
  simp
theorem fndT_all (x : Sx05.Step) (r : List Sx05.Step) (l : List Sx05.Item) : fndT x r l l.length = Sx05.found l (x :: r) := by
  unfold fndT
  rw [List.take_of_length_le (by rw [List.length_zipIdx]; exact Nat.le_refl _), found_is]
  rfl
theorem fnd1_len (x : Sx05.Step) (r : List Sx05.Step) (n : Nat) (ws : List Wd) (j : Nat) : (fnd1 x r n ws j).length ≤ j := by
  unfold fnd1
  have := List.length_filterMap_le (fun k => if endAt ws x r k < ws.length then some (n, k, endAt ws x r k) else none) (List.range j)
  rw [List.length_range] at this
  exact this
def spPlaces (A : Adr) : Sp := fun vs H Q _ => ∃ (tx st dx tr : Addr) (fs : List (Str × V)) (l : List Sx05.Item) (x : Sx05.Step) (r : List Sx05.Step), vs = [.ref tx, .ref st] ∧ H tx = some (.ins A.Text dx fs) ∧ List.lookup ("traits" : Str) fs = some (V.ref tr) ∧ TrsAt H tr l ∧ StepsAt A H st (x :: r) ∧ (∀ y ∈ x :: r, kindsOk y) ∧ OkSt l ∧
  ∀ H' p as, Same H H' → H p = none → H' p = some (.lst (as.map V.ref)) → Paired (fun a t => H' a = some (.lst (t3V t))) as (Sx05.found l (x :: r)) → Q (.ref p) H'
section
variable {P : Program} {w : World} {K : PySem.W.Frag} {mg : Str → Option Value} {base : Heap} {A : Adr} {f1 f2 f3 f4 : Addr}
abbrev nPl : List Str := ["text", "steps", "places", "number", "words", "at", "end"]
theorem sc_places_of : FnScope nPl ["text", "steps"] (defScope s_places_of) := ⟨rfl, rfl, rfl, by decide +kernel, rfl, by decide +kernel, by decide +kernel⟩
theorem ok_places_of {f : Addr} {fd : FuncData} (F : Fun K "places_of" "places_of" s_places_of f fd) (cl : Cls K A.Text) (n8 : NoAttr K A.Text "traits") (D1 : Def P w K mg base CX0 3 "ends_of" f1 ["words", "steps"] (spEnds A)) (mLen : mg "len" = none) (mE : mg "enumerate" = none) :
    FnOk P w K mg base CX0 4 f fd ["text", "steps"] (spPlaces A) := by
  refine F.ok sc_places_of (fun vs H Q E h => ?_) (fun cdv Ar outer s H vs Q E hr h => ?_)
  · obtain ⟨tx, st, dx, tr, fs, l, x, r, rfl, _⟩ := h
    rfl
  refine ⟨_, pss_cons (ps_set (i := 2) sc_places_of.nd rfl (.inl rfl) (pe_lst pa_nil))
    (pss_cons (ps_for PassesOwn.never rfl (pi_enum (by rfl) mE (by exact (pa_cons (pe_fld (pv 0) rfl) pa_nil))) (pg_tup rfl (pgs_cons (pg_name (i := 3) sc_places_of.nd rfl (.inl rfl)) (pgs_cons (pg_name (i := 4) sc_places_of.nd rfl (.inl rfl)) pgs_nil)))
      (pss_one (ps_for PassesOwn.never rfl (pi_enum (by rfl) mE (by exact (pa_cons (pe_def D1 hr pass0 (pa_cons (pv 4) (pa_cons (pv 1) pa_nil))) pa_nil))) (pg_tup rfl (pgs_cons (pg_name (i := 5) sc_places_of.nd rfl (.inl rfl)) (pgs_cons (pg_name (i := 6) sc_places_of.nd rfl (.inl rfl)) pgs_nil)))
        (pss_one (ps_if (pt_cmpR op_lt (pv 6) (pe_callB call_len_seq (by rfl) mLen PySem.boot_len (by exact (pa_cons (pv 4) pa_nil))) (nomark _))
          (pss_one (ps_expr (pe_bm PySem.F.plainAttrs_list PySem.F.slot_list_append PySem.F.type_list_append mt_append (pv 2) (pa_cons (pe_lst (by exact (pa_cons (pv 3) (pa_cons (pv 5) (pa_cons (pv 6) pa_nil))))) pa_nil)))) pss_nil)))))
    (pss_one (ps_ret (pv 2)))), ?_⟩
  obtain ⟨tx, st, dx, tr, fs, l, x, r, rfl, htx, hf, ⟨as, htr, pa⟩, hst, hkd, hok, k⟩ := h
  have la := Paired.length pa
  have l60 := hok.1
  refine ⟨Nat.zero_le _, fun D nD => ?_⟩
  have sD : Same H (upd H D (.lst [])) := Same.new nD
  refine ⟨_, rfl, tx, A.Text, dx, _, _, rfl, sD _ _ htx, cl, n8, hf, tr, _, rfl, .of (sD _ _ htr), ?_⟩
  refine for_it (walk_enum (K := K) (a := tr) (xs := as.map V.ref)) (fun i σ H' => ∃ (v3 v4 v5 v6 : Option V) (bs : List Addr), σ = [some (.ref tx), some (.ref st), some (.ref D), v3, v4, v5, v6] ∧ Same H H' ∧ H' D = some (.lst (bs.map V.ref)) ∧
    Paired (fun a t => Off H' D a = some (.lst (t3V t))) bs (fndT x r l i) ∧ bs.length ≤ i * 30) ?_ ?_ ?_ ?_
  · exact ⟨none, none, none, none, [], rfl, sD, upd_same, by show Paired _ [] (([] : List (Sx05.Item × Nat)).flatMap _); exact .nil, Nat.zero_le _⟩
  · rintro i σ H' hi ⟨v3, v4, v5, v6, bs, _, s1, _⟩
    exact .of (s1 _ _ htr)
  · rintro i v σ Ha Hb hi ⟨v3, v4, v5, v6, bs, rfl, s1, hD, pb, lb⟩ ⟨T, z1, z2, rfl, nT, rfl, e1, e2⟩
    cases e1
    have e2 : (as.map V.ref)[i]? = some z2 := e2
    rw [List.getElem?_map] at e2
    obtain ⟨tw, ht1, rfl⟩ := Option.map_eq_some_iff.mp e2
    obtain ⟨y, hy1, hy2⟩ := paired_get pa ht1
    have hy30 := (hok.2 y (List.mem_of_getElem? hy1)).1
    rw [List.length_map, la] at hi
    have sT : Same Ha (upd Ha T (.tup [.int (i : Nat), .ref tw])) := Same.new nT
    have hT : upd Ha T (.tup [.int (i : Nat), .ref tw]) T = some (.tup [.int (i : Nat), .ref tw]) := upd_same
    generalize upd Ha T (.tup [.int (i : Nat), .ref tw]) = H1 at *
    have s2 := s1.trans sT
    refine ⟨T, _, rfl, .of hT, rfl, _, _, rfl, _, _, rfl, rfl, ?_⟩
    refine ⟨_, rfl, _, rfl, tw, st, y.words, x, r, rfl, hy2.same s2, hst.same s2, hkd, hy30, fun H2 e s3 ne he => ?_⟩
    have s03 := s2.trans s3
    obtain ⟨cs, hcs, pcs⟩ := hy2.same s03
    have lcs := Paired.length pcs
    refine ⟨e, _, rfl, .of he, ?_⟩
    have hD1 := sT _ _ hD
    have hD2 := s3 _ _ hD1
    have heD : e ≠ D := fun z => by rw [z, hD1] at ne; cases ne
    have lel := endsL_len y.words x r
    have fE : ∀ {H' : Hp}, Same (Off H2 D) (Off H' D) → H' e = some (.lst (nis (endsL y.words x r))) := fun s4 => Off.same _ _ (s4 _ _ (by rw [Off.ne heD]; exact he))
    have hcD : tw ≠ D := fun z => by
      obtain ⟨cs0, h0, _⟩ := hy2
      rw [z, nD] at h0
      cases h0
    refine for_it (walk_enum (K := K) (a := e) (xs := nis (endsL y.words x r))) (fun j σ H' => ∃ (v5 v6 : Option V) (bs : List Addr), σ = [some (.ref tx), some (.ref st), some (.ref D), some (ni i), some (.ref tw), v5, v6] ∧ Same (Off H2 D) (Off H' D) ∧ H' D = some (.lst (bs.map V.ref)) ∧
      Paired (fun a t => Off H' D a = some (.lst (t3V t))) bs (fndT x r l i ++ fnd1 x r i y.words j) ∧ bs.length ≤ i * 30 + j) ?_ ?_ ?_ ?_
    · refine ⟨_, _, bs, rfl, fun _ _ e => e, hD2, ?_, by omega⟩
      have e0 : fnd1 x r i y.words 0 = [] := rfl
      rw [e0, List.append_nil]
      exact Paired.mapP pb fun _ _ z => Off.mono (sT.trans s3) _ _ z
    · rintro j σ H' hj ⟨v5, v6, bs, _, s4, _⟩
      exact .of (fE s4)
    · rintro j v σ Hc Hd' hj ⟨v5, v6, cb, rfl, s4, hD4, pc, lc⟩ ⟨U, z1, z2, rfl, nU, rfl, g1, g2⟩
      cases g1
      obtain ⟨n, hn, rfl⟩ := nis_get g2
      rw [nis_length, lel] at hj
      rw [endsL_get hj] at hn
      cases hn
      have sU : Same Hc (upd Hc U (.tup [.int (j : Nat), ni (endAt y.words x r j)])) := Same.new nU
      have hU : upd Hc U (.tup [.int (j : Nat), ni (endAt y.words x r j)]) U = some (.tup [.int (j : Nat), ni (endAt y.words x r j)]) := upd_same
      generalize upd Hc U (.tup [.int (j : Nat), ni (endAt y.words x r j)]) = H5 at *
      have s5 := s4.trans (Off.mono (p := D) sU)
      have hD5 := sU _ _ hD4
      have htw : H5 tw = some (.lst (cs.map V.ref)) := Off.same _ _ (s5 _ _ (by rw [Off.ne hcD]; exact hcs))
      refine ⟨U, _, rfl, .of hU, rfl, _, _, rfl, _, _, rfl, rfl, ?_⟩
      refine ⟨_, rfl, _, rfl, tw, _, rfl, .inl (.of htw), _, _, rfl, rfl, _, rfl, ?_⟩
      rw [List.length_map, lcs]
      have pc5 := Paired.mapP pc (G := fun a t => Off H5 D a = some (.lst (t3V t))) fun _ _ z => Off.mono sU _ _ z
      by_cases hc : endAt y.words x r j < y.words.length
      · refine if_true_of (decide_eq_true (by omega)) ?_
        refine ⟨_, rfl, .inl ⟨rfl, _, .of hD5⟩, _, rfl, _, rfl, _, rfl, by show 3 ≤ sizeLine; decide, fun q nq => ?_⟩
        have s6 : Same H5 (upd H5 q (.lst [ni i, ni j, ni (endAt y.words x r j)])) := Same.new nq
        have hqD : q ≠ D := fun z => by rw [z, hD5] at nq; cases nq
        refine ⟨D, _, _, rfl, rfl, s6 _ _ hD5, ?_, ?_⟩
        · rw [List.length_map, sizeLine_eq]
          omega
        refine ⟨_, _, cb ++ [q], rfl, ?_, ?_, ?_, ?_⟩
        · rw [Off.upd]
          exact s5.trans (Off.mono s6)
        · rw [upd_same, List.map_append]
          rfl
        · rw [Off.upd, fnd1_succ, if_pos hc, ← List.append_assoc]
          refine paired_snoc (Paired.mapP pc5 fun _ _ z => Off.mono s6 _ _ z) ?_
          rw [Off.ne hqD]
          exact upd_same
        · rw [List.length_append]
          show cb.length + 1 ≤ _
          omega
      · refine if_false_of (decide_eq_false (by omega)) ?_
        refine ⟨_, _, cb, rfl, s5, hD5, ?_, by omega⟩
        rw [fnd1_succ, if_neg hc, List.append_nil]
        exact pc5
    · rintro σ H3 ⟨v5, v6, cb, rfl, s4, hD4, pc, lc⟩
      rw [nis_length, lel, ← fndT_succ hy1] at pc
      rw [nis_length, lel] at lc
      refine ⟨_, _, _, _, cb, rfl, fun b o z => ?_, hD4, pc, by omega⟩
      have hb : b ≠ D := ne_of_none z nD
      exact Off.same _ _ (s4 _ _ (by rw [Off.ne hb]; exact s03 _ _ z))
  · rintro σ H1 ⟨v3, v4, v5, v6, bs, rfl, s1, hD, pb, lb⟩
    rw [List.length_map, la, fndT_all] at pb
    exact ⟨_, rfl, k _ D bs s1 nD hD (Paired.mapP pb fun _ _ z => Off.same _ _ z)⟩
end
end G

end

section
set_option Elab.async false
set_option linter.all false
set_option maxRecDepth 100000
set_option maxHeartbeats 4000000
namespace G
open PySem PySem.Spec PyProof.Rows L2 GR
theorem good_all {q : List Sx05.Step} (h : goodQ q = true) : (∃ x r, q = x :: r) ∧ ∀ y ∈ q, kindsOk y := by
  unfold goodQ at h
  simp only [Bool.and_eq_true, decide_eq_true_eq] at h
  refine ⟨?_, fun y hy => (kinds_of (List.all_eq_true.mp h.2.2 y hy)).1⟩
  cases q with
  | nil => simp at h
  | cons x r => exact ⟨x, r, rfl⟩
theorem t3_flat (L : List T3) : (L.map t3V).flatten = iis (L.flatMap fun x => [Sx05.num x.1, Sx05.num x.2.1, Sx05.num x.2.2]) := by
  unfold iis
  rw [List.map_flatMap, ← List.flatMap_def]
  rfl
theorem paired_t3 {H : Hp} : ∀ {as : List Addr} {L : List T3}, Paired (fun a t => H a = some (.lst (t3V t))) as L → Paired (fun a r => H a = some (.lst r)) as (L.map t3V)
  | _, _, .nil => .nil
  | _, _, .cons r t => .cons r (paired_t3 t)
section
variable {P : Program} {w : World} {K : PySem.W.Frag} {mg : Str → Option Value} {base : Heap} {A : Adr} {f1 f2 f3 f4 : Addr}
theorem sc_find : FnScope ["desk", "numbers", "steps", "places"] ["desk", "numbers"] (defScope s_find) := ⟨rfl, rfl, rfl, by decide +kernel, rfl, by decide +kernel, by decide +kernel⟩
theorem ok_find {f : Addr} {fd : FuncData} (F : Fun K "find" "find" s_find f fd) (T : TxT P w K mg base A) (B : DkT K A) (BT : BadT K mg A.BadSteps) (D1 : Def P w K mg base (L2.CX P w) 4 "steps_of" f1 ["numbers"] (spSteps A)) (D2 : Def P w K mg base CX0 4 "places_of" f2 ["text", "steps"] (spPlaces A)) (D3 : Def P w K mg base CX0 1 "joined" f3 ["rows"] spJoined)
    (mLen : mg "len" = none) {t1 : Tok} (m1 : mg "OUT_OF_BOUNDS" = some (.int (-1) t1)) : FnOk P w K mg base CX0 5 f fd ["desk", "numbers"] (spDesk P w A (cOf 10) fun ns => ∃ q, preFind ns q ∧ cOf 10 ns = .find q) := by
  refine F.ok sc_find (fun vs H Q E h => ?_) (fun cdv Ar outer s H vs Q E hr h => ?_)
  · obtain ⟨S, dk, nb, ns, l, rfl, _⟩ := h
    rfl
  obtain ⟨fdE, FE, bE⟩ := D1.ex
  refine ⟨_, pss_cons (ps_try_only (tb := fun W => tAsg (tCallS (spSteps A) (WE W) (tCons (tVar 1) tNil)) (gName 2)) (ts := fun _ _ _ => tRet (tLst (tCons (tC (.int (-1))) tNil))) (Wout := fun _ _ _ _ => False) rfl rfl ⟨rfl, by decide, Or.inl BT.gl⟩ takes0
        (fun W pn xe tk _ => pss_one (ps_set (i := 2) sc_find.nd rfl (.inl rfl) (by exact (pe_callS FE (hr.mono (by decide)) rfl D1.gl D1.kp bE (fun σ => passAt tk σ) (by exact (pa_cons (pv 1) pa_nil))))))
        (fun a oe cls d pn hz hf => pss_one (ps_ret (pe_lst (by exact (pa_cons (pe_glob (v := .int (-1)) rfl m1 ⟨_, rfl⟩) pa_nil))))))
    (pss_cons (ps_set (i := 3) sc_find.nd rfl (.inl rfl) (pe_def D2 hr pass0 (pa_cons (pe_fld (pv 0) rfl) (pa_cons (pv 2) pa_nil))))
    (pss_one (ps_ret (pe_op op_cat (pe_lst (by exact (pa_cons (pe_callB call_len_seq (by rfl) mLen PySem.boot_len (by exact (pa_cons (pv 3) pa_nil))) pa_nil))) (pe_def D3 hr pass0 (pa_cons (pv 3) pa_nil)))))), ?_⟩
  obtain ⟨S, dk, nb, ns, l, rfl, hSd, hS, hDk, hok, hnb, ⟨q, ⟨hq1, hq2, hq3, hq4⟩, hq5⟩, hsz, k⟩ := h
  obtain ⟨ddx, tx, hdk, hT⟩ := id hDk
  obtain ⟨dx, p, d, kp, kvs, X, e1, e2, e3, e4, e5, e6, e7, e8⟩ := hT.same Hd.sub
  rw [hq5] at hsz k
  have stp : Sx05.step l (.find q) = (l, if goodQ q = false then Sx05.ok (-1) else ⟨Sx05.num (Sx05.found l q).length, (Sx05.found l q).flatMap fun x => [Sx05.num x.1, Sx05.num x.2.1, Sx05.num x.2.2]⟩) := rfl
  have k : ∀ (H' : Hp) (p : Addr), Same (Off H dk) (Off H' dk) → DeskAt P w A S H' dk l → H p = none → H' p = some (.lst (iis (ansOf (Sx05.step l (.find q)).2))) → Q (.ref p) H' := k
  rw [stp] at hsz k
  subst hq1
  refine ⟨_, rfl, nb, q, rfl, hnb, hq3, fun hg H1 st s1 hst => ?_, fun hg H1 s1 => ?_⟩
  · have hg' : ¬ goodQ q = false := by rw [hg]; decide
    rw [if_neg hg'] at hsz k
    obtain ⟨⟨x, r, rfl⟩, hkd⟩ := good_all hg
    have hsz : (Sx05.num (Sx05.found l (x :: r)).length :: (Sx05.found l (x :: r)).flatMap fun x => [Sx05.num x.1, Sx05.num x.2.1, Sx05.num x.2.2]).length ≤ 1000000 := hsz
    rw [List.length_cons] at hsz
    refine ⟨_, rfl, dk, A.Desk, ddx, _, _, rfl, s1 _ _ hdk, B.cl, B.n1, lk1, _, rfl, tx, st, dx, X.tr, _, l, x, r, rfl, s1 _ _ e1, lkn (by decide +kernel) (lkn (by decide +kernel) (lkn (by decide +kernel) (lkn (by decide +kernel) (lkn (by decide +kernel) (lk3 (by decide +kernel) (by decide +kernel)))))), e8.same s1, hst, hkd, hok, fun H2 u as s2 nu hu pu => ?_⟩
    have lu := Paired.length pu
    refine ⟨_, rfl, u, _, rfl, .inl (.of hu), by show 1 ≤ sizeLine; decide, fun n nn => ?_⟩
    have s3 : Same H2 (upd H2 n (.lst [.int ((as.map V.ref).length : Int)])) := Same.new nn
    have hn : upd H2 n (.lst [.int ((as.map V.ref).length : Int)]) n = some (.lst [.int ((as.map V.ref).length : Int)]) := upd_same
    generalize upd H2 n (.lst [.int ((as.map V.ref).length : Int)]) = H3 at *
    have efl := t3_flat (Sx05.found l (x :: r))
    have hfl : (iis ((Sx05.found l (x :: r)).flatMap fun x => [Sx05.num x.1, Sx05.num x.2.1, Sx05.num x.2.2])).length ≤ 1000000 := by
      unfold iis
      rw [List.length_map]
      omega
    refine ⟨_, rfl, u, as, _, rfl, s3 _ _ hu, paired_t3 (Paired.mapP pu fun _ _ z => s3 _ _ z), by rw [efl]; exact Nat.le_trans hfl (by decide), fun H4 j s4 nj hj => ?_⟩
    rw [efl] at hj
    refine ⟨n, j, _, _, rfl, rfl, s4 _ _ hn, hj, ?_, fun z nz => ?_⟩
    · rw [sizeLine_eq]
      exact Nat.le_trans (Nat.add_le_add_left hfl 1) (by decide)
    have s04 := s1.trans (s2.trans (s3.trans s4))
    have s05 := s04.trans (Same.new (o := .lst ([.int ((as.map V.ref).length : Int)] ++ iis ((Sx05.found l (x :: r)).flatMap fun x => [Sx05.num x.1, Sx05.num x.2.1, Sx05.num x.2.2]))) nz)
    refine k _ z (Off.mono s05) (hDk.same s05) (s04.free nz) ?_
    rw [upd_same, List.length_map, lu]
    rfl
  · refine ⟨true, BT.te, fun _ a0 _ => ?_, fun q => Bool.noConfusion q⟩
    refine ⟨by show 1 ≤ sizeLine; decide, fun z nz => ?_⟩
    have s2 := s1.trans (Same.new (o := .lst [.int (-1)]) nz)
    refine k _ z (Off.mono s2) (hDk.same s2) (s1.free nz) ?_
    rw [upd_same, if_pos hg]
    rfl
end
end G

end

section
set_option Elab.async false
set_option linter.all false
set_option maxRecDepth 100000
set_option maxHeartbeats 4000000
namespace G
open PySem PySem.Spec PyProof.Rows L2 GR
/-- a method of the top's class C -/
structure MethAt (K : PySem.W.Frag) (m q : Str) (st : Stmt) (C f : Addr) : Prop where
  mt : Meth K C m f
  fn : ∃ fd, Fun K m q st f fd
theorem MethAt.by {K : PySem.W.Frag} {m q : Str} {st : Stmt} {C f : Addr} {oc : Value} {od an : Option Addr} {sl : Array (Option Value)} {kV dc pm cd ct : Value} (i : PySem.W.findIn K (.ref C) m = some (some (.ref f))) (b : PySem.W.isFn K (.ref f) = true)
    (l : K.lookup f = some ⟨oc, od, .func (PySem.W.fnOf m q (defArgs st) (defBody st) (defScope st) .none kV dc pm an cd ct), sl⟩) (c : PySem.W.codeIn K cd q = true) (k : PySem.W.keepIn K (.ref f) = true) : MethAt K m q st C f :=
  ⟨⟨i, b, k⟩, _, fun_mk (st := st) l c k⟩
/-- an exception's class without __init__ -/
structure BadAt (K : PySem.W.Frag) (x : Str) (C : Addr) : Prop where
  ns : PySem.W.nsIn K mainGlobals x = some (some (.ref C))
  xc : PySem.W.excIn K C [.type "Exception", .type "BaseException", .type "object"] "Exception.__new__" = true
  kc : PySem.W.keepIn K (.ref C) = true
  bc : PySem.W.subIn K (.ref C) (.type "BaseException") = some true
  tc : PySem.W.typeIn K (.ref C) = some (.type "type")
  te : PySem.W.exmOne K (.ref C) (.ref C) = some true
theorem BadAt.by {K : PySem.W.Frag} {x : Str} {C : Addr} (a : PySem.W.nsIn K mainGlobals x = some (some (.ref C))) (xc : PySem.W.excIn K C [.type "Exception", .type "BaseException", .type "object"] "Exception.__new__" = true)
    (kc : PySem.W.keepIn K (.ref C) = true) (ec : PySem.W.subIn K (.ref C) (.type "BaseException") = some true) (tc : PySem.W.typeIn K (.ref C) = some (.type "type")) (ic : PySem.W.isClsIn K C = true) (sc : PySem.W.subIn K (.ref C) (.ref C) = some true) : BadAt K x C :=
  ⟨a, xc, kc, ec, tc, exm_me ec ic tc sc⟩
theorem BadT.by {K : PySem.W.Frag} {h : Heap} {mg : Str → Option Value} {C : Addr} (X : K.In h) (NG : h.Ns mainGlobals mg) (d : BadAt K "BadSteps" C) : BadT K mg C := ⟨PySem.W.mg_of X NG d.ns, d.xc, d.kc, d.bc, d.tc, d.te⟩
theorem SeamsAt.by {K : PySem.W.Frag} {h : Heap} {mg : Str → Option Value} {a : Addr} (X : K.In h) (NG : h.Ns mainGlobals mg) (T : Tup3 K "SEAMS" a 45 61 126) : SeamsAt K mg a := by
  obtain ⟨t1, t2, t3, T⟩ := T
  exact ⟨PySem.W.mg_of X NG T.ns, T.sq (.cons ⟨_, rfl⟩ (.cons ⟨_, rfl⟩ (.cons ⟨_, rfl⟩ .nil))) (by show 3 ≤ 1000; decide)⟩
theorem IntAt.mg {K : PySem.W.Frag} {h : Heap} {mg : Str → Option Value} {x : Str} {n : Int} (X : K.In h) (NG : h.Ns mainGlobals mg) (T : IntAt K x n) : ∃ t, mg x = some (.int n t) := by
  obtain ⟨t, T⟩ := T
  exact ⟨t, PySem.W.mg_of X NG T⟩
theorem refs_vals : ∀ fs : List Addr, Vals (fs.map V.ref) (fs.map Value.ref)
  | [] => .nil
  | _ :: r => .cons rfl (refs_vals r)
section
variable {P : Program} {w : World} {K : PySem.W.Frag} {mg : Str → Option Value} {base : Heap} {h : Heap}
theorem Def.by {CX : CXT} {k : Nat} {x : Str} {st : Stmt} {f : Addr} {fd : FuncData} {ps : List Str} {sp : Sp} (X : K.In h) (NG : h.Ns mainGlobals mg) (d : DefAt K x x st f) (F : Fun K x x st f fd) (ok : FnOk P w K mg base CX k f fd ps sp) (b : Binds K fd ps []) : Def P w K mg base CX k x f ps sp :=
  ⟨⟨fd, ok, b⟩, F.kp, PySem.W.mg_of X NG d.ns⟩
theorem Rec2.by {x q : Str} {st : Stmt} {C : Addr} {f g : Str} (X : K.In h) (NG : h.Ns mainGlobals mg) (d : ClsAt K x q st C) (n1 : NoAttr K C f) (n2 : NoAttr K C g) (ne : (g == f) = false)
    (ok : ∀ fI fd, Fun K "__init__" q st fI fd → FnOk P w K mg base CX0 1 fI fd ["self", f, g] (spRec2 C f g) ∧ Binds K fd ["self", f, g] []) : Rec2 P w K mg base x C f g := by
  obtain ⟨fI, fd, M, F⟩ := d.fn
  obtain ⟨o, b⟩ := ok fI fd F
  exact ⟨⟨fI, fd, _, M, o, b⟩, d.cl, n1, n2, ne, PySem.W.mg_of X NG d.ns⟩
end
theorem all_ok {P : Program} {w : World} {K : PySem.W.Frag} {h : Heap} {mg : Str → Option Value} {fa a_SEAMS a_CALLS c_Fault c_BadSteps c_Row c_Text c_Word c_Item c_Desk c_Parting c_Step c_Source f_cut_at f_lines_of f_rows_of f_parts_of f_seams_of f_without_seams f_dotted_parts f_said_line f_said_item f_said_text f_times_of f_free_line f_check_line_between f_pieces_of f_word_of f_words_of f_entries_of f_counted f_joined f_traits_of f_traits_of_words f_has_trait f_numbers_by f_has_two_glosses f_unlike_forms f_pieces_between f_ways_from f_amount_of_rows f_choices_at f_grown f_first_rows f_step_of f_steps_of f_fits f_ends_of f_places_of f_begins f_read f_said f_item f_known f_piece f_glosses f_forms f_unlike f_apart f_find f_answers f_take f_take_up_to f_take_counted : Addr} (X : K.In h) (NG : h.Ns mainGlobals mg) (hfa : mg "answers" = some (.ref fa))
    (d_cut_at : DefAt K "cut_at" "cut_at" s_cut_at f_cut_at)
    (d_lines_of : DefAt K "lines_of" "lines_of" s_lines_of f_lines_of)
    (d_rows_of : DefAt K "rows_of" "rows_of" s_rows_of f_rows_of)
    (d_parts_of : DefAt K "parts_of" "parts_of" s_parts_of f_parts_of)
    (d_seams_of : DefAt K "seams_of" "seams_of" s_seams_of f_seams_of)
    (d_without_seams : DefAt K "without_seams" "without_seams" s_without_seams f_without_seams)
    (d_dotted_parts : DefAt K "dotted_parts" "dotted_parts" s_dotted_parts f_dotted_parts)
    (d_said_line : DefAt K "said_line" "said_line" s_said_line f_said_line)
    (d_said_item : DefAt K "said_item" "said_item" s_said_item f_said_item)
    (d_said_text : DefAt K "said_text" "said_text" s_said_text f_said_text)
    (d_times_of : DefAt K "times_of" "times_of" s_times_of f_times_of)
    (d_free_line : DefAt K "free_line" "free_line" s_free_line f_free_line)
    (d_check_line_between : DefAt K "check_line_between" "check_line_between" s_check_line_between f_check_line_between)
    (d_pieces_of : DefAt K "pieces_of" "pieces_of" s_pieces_of f_pieces_of)
    (d_word_of : DefAt K "word_of" "word_of" s_word_of f_word_of)
    (d_words_of : DefAt K "words_of" "words_of" s_words_of f_words_of)
    (d_entries_of : DefAt K "entries_of" "entries_of" s_entries_of f_entries_of)
    (d_counted : DefAt K "counted" "counted" s_counted f_counted)
    (d_joined : DefAt K "joined" "joined" s_joined f_joined)
    (d_traits_of : DefAt K "traits_of" "traits_of" s_traits_of f_traits_of)
    (d_traits_of_words : DefAt K "traits_of_words" "traits_of_words" s_traits_of_words f_traits_of_words)
    (d_has_trait : DefAt K "has_trait" "has_trait" s_has_trait f_has_trait)
    (d_numbers_by : DefAt K "numbers_by" "numbers_by" s_numbers_by f_numbers_by)
    (d_has_two_glosses : DefAt K "has_two_glosses" "has_two_glosses" s_has_two_glosses f_has_two_glosses)
    (d_unlike_forms : DefAt K "unlike_forms" "unlike_forms" s_unlike_forms f_unlike_forms)
    (d_pieces_between : DefAt K "pieces_between" "pieces_between" s_pieces_between f_pieces_between)
    (d_ways_from : DefAt K "ways_from" "ways_from" s_ways_from f_ways_from)
    (d_amount_of_rows : DefAt K "amount_of_rows" "amount_of_rows" s_amount_of_rows f_amount_of_rows)
    (d_choices_at : DefAt K "choices_at" "choices_at" s_choices_at f_choices_at)
    (d_grown : DefAt K "grown" "grown" s_grown f_grown)
    (d_first_rows : DefAt K "first_rows" "first_rows" s_first_rows f_first_rows)
    (d_step_of : DefAt K "step_of" "step_of" s_step_of f_step_of)
    (d_steps_of : DefAt K "steps_of" "steps_of" s_steps_of f_steps_of)
    (d_fits : DefAt K "fits" "fits" s_fits f_fits)
    (d_ends_of : DefAt K "ends_of" "ends_of" s_ends_of f_ends_of)
    (d_places_of : DefAt K "places_of" "places_of" s_places_of f_places_of)
    (d_begins : DefAt K "begins" "begins" s_begins f_begins)
    (d_read : DefAt K "read" "read" s_read f_read)
    (d_said : DefAt K "said" "said" s_said f_said)
    (d_item : DefAt K "item" "item" s_item f_item)
    (d_known : DefAt K "known" "known" s_known f_known)
    (d_piece : DefAt K "piece" "piece" s_piece f_piece)
    (d_glosses : DefAt K "glosses" "glosses" s_glosses f_glosses)
    (d_forms : DefAt K "forms" "forms" s_forms f_forms)
    (d_unlike : DefAt K "unlike" "unlike" s_unlike f_unlike)
    (d_apart : DefAt K "apart" "apart" s_apart f_apart)
    (d_find : DefAt K "find" "find" s_find f_find)
    (d_answers : DefAt K "answers" "answers" s_answers f_answers)
    (d_Row : ClsAt K "Row" "Row.__init__" s_Row c_Row) (n_Row_place : NoAttr K c_Row "place") (n_Row_signs : NoAttr K c_Row "signs")
    (d_Text : ClsAt K "Text" "Text.__init__" s_Text c_Text) (n_Text_entries : NoAttr K c_Text "entries") (n_Text_times : NoAttr K c_Text "times") (n_Text_known_pieces : NoAttr K c_Text "known_pieces") (n_Text_by_form : NoAttr K c_Text "by_form") (n_Text_by_gloss : NoAttr K c_Text "by_gloss") (n_Text_firsts : NoAttr K c_Text "firsts") (n_Text_others : NoAttr K c_Text "others") (n_Text_traits : NoAttr K c_Text "traits")
    (d_Word : ClsAt K "Word" "Word.__init__" s_Word c_Word) (n_Word_rows : NoAttr K c_Word "rows") (n_Word_pieces : NoAttr K c_Word "pieces")
    (d_Item : ClsAt K "Item" "Item.__init__" s_Item c_Item) (n_Item_words : NoAttr K c_Item "words") (n_Item_free : NoAttr K c_Item "free")
    (d_Desk : ClsAt K "Desk" "Desk.__init__" s_Desk c_Desk) (n_Desk_text : NoAttr K c_Desk "text")
    (d_Parting : ClsAt K "Parting" "Parting.__init__" s_Parting c_Parting) (n_Parting_text : NoAttr K c_Parting "text") (n_Parting_word : NoAttr K c_Parting "word") (n_Parting_ways : NoAttr K c_Parting "ways")
    (d_Step : ClsAt K "Step" "Step.__init__" s_Step c_Step) (n_Step_gap : NoAttr K c_Step "gap") (n_Step_wanted : NoAttr K c_Step "wanted")
    (d_Source : ClsAt K "Source" "Source.__init__" s_Source c_Source) (n_Source_numbers : NoAttr K c_Source "numbers") (n_Source_at : NoAttr K c_Source "at")
    (d_take : MethAt K "take" "Source.take" s_take c_Source f_take)
    (d_take_up_to : MethAt K "take_up_to" "Source.take_up_to" s_take_up_to c_Source f_take_up_to)
    (d_take_counted : MethAt K "take_counted" "Source.take_counted" s_take_counted c_Source f_take_counted)
    (d_Fault : ExcAt K "Fault" "Fault.__init__" s_Fault c_Fault) (n_Fault_kind : PySem.W.findIn K (.ref c_Fault) "kind" = some none) (n_Fault_place : PySem.W.findIn K (.ref c_Fault) "place" = some none)
    (d_BadSteps : BadAt K "BadSteps" c_BadSteps)
    (i_LINE_END : IntAt K "LINE_END" (10))
    (i_BLANK : IntAt K "BLANK" (32))
    (i_QUOTE : IntAt K "QUOTE" (39))
    (i_DOT : IntAt K "DOT" (46))
    (i_BAD_LINES : IntAt K "BAD_LINES" (1))
    (i_BAD_PIECE_ROWS : IntAt K "BAD_PIECE_ROWS" (2))
    (i_BAD_GLOSS_ROWS : IntAt K "BAD_GLOSS_ROWS" (3))
    (i_EMPTY_PART : IntAt K "EMPTY_PART" (4))
    (i_OTHER_SEAMS : IntAt K "OTHER_SEAMS" (5))
    (i_OTHER_WORD : IntAt K "OTHER_WORD" (6))
    (i_TOO_MANY : IntAt K "TOO_MANY" (7))
    (i_MOST_ITEMS : IntAt K "MOST_ITEMS" (60))
    (i_MOST_WORDS : IntAt K "MOST_WORDS" (30))
    (i_MOST_PIECES : IntAt K "MOST_PIECES" (8))
    (i_NO_SEAM : IntAt K "NO_SEAM" (0))
    (i_SEAM : IntAt K "SEAM" (0))
    (i_FORM : IntAt K "FORM" (1))
    (i_GLOSS : IntAt K "GLOSS" (2))
    (i_KIND_OF_NONE : IntAt K "KIND_OF_NONE" (6))
    (i_MOST_STEPS : IntAt K "MOST_STEPS" (4))
    (i_MOST_GAP : IntAt K "MOST_GAP" (30))
    (i_MOST_WANTED : IntAt K "MOST_WANTED" (4))
    (i_MOST_KIND : IntAt K "MOST_KIND" (6))
    (i_OUT_OF_BOUNDS : IntAt K "OUT_OF_BOUNDS" (-1))
    (i_NOT_THERE : IntAt K "NOT_THERE" (-2))
    (i_FAULTY : IntAt K "FAULTY" (-3))
    (i_MOST_BYTES : IntAt K "MOST_BYTES" (6000))
    (i_MOST_ROWS : IntAt K "MOST_ROWS" (20))
    (i_MOST_WORD_BYTES : IntAt K "MOST_WORD_BYTES" (40))
    (u_len : PySem.W.nsIn K mainGlobals "len" = some none)
    (u_enumerate : PySem.W.nsIn K mainGlobals "enumerate" = some none)
    (u_zip : PySem.W.nsIn K mainGlobals "zip" = some none)
    (u_max : PySem.W.nsIn K mainGlobals "max" = some none)
    (u_range : PySem.W.nsIn K mainGlobals "range" = some none)
    (u_list : PySem.W.nsIn K mainGlobals "list" = some none)
    (u_tuple : PySem.W.nsIn K mainGlobals "tuple" = some none)
    (u_any : PySem.W.nsIn K mainGlobals "any" = some none)
    (u_all : PySem.W.nsIn K mainGlobals "all" = some none)
    (u_sorted : PySem.W.nsIn K mainGlobals "sorted" = some none)
    (u_reversed : PySem.W.nsIn K mainGlobals "reversed" = some none)
    (u_min : PySem.W.nsIn K mainGlobals "min" = some none)
    (t_SEAMS : Tup3 K "SEAMS" a_SEAMS 45 61 126) (t_CALLS : TupAt K "CALLS" a_CALLS [.ref f_begins, .ref f_read, .ref f_said, .ref f_item, .ref f_known, .ref f_piece, .ref f_glosses, .ref f_forms, .ref f_unlike, .ref f_apart, .ref f_find])
    : ∃ fd : FuncData, (∀ (s : Shared) (us : List Value), us.length = (["calls"] : List Str).length → BindsTo s fd ⟨us, []⟩ ((["calls"] : List Str).zip us)) ∧ ∀ base : Heap, K.In base → base.Ns mainGlobals mg → FnOk P w K mg base CX0 12 fa fd ["calls"] (spAns K) := by
  have e := hfa.symm.trans (PySem.W.mg_of X NG d_answers.ns)
  cases e
  obtain ⟨t_LINE_END, m_LINE_END⟩ := i_LINE_END.mg X NG
  obtain ⟨t_BLANK, m_BLANK⟩ := i_BLANK.mg X NG
  obtain ⟨t_QUOTE, m_QUOTE⟩ := i_QUOTE.mg X NG
  obtain ⟨t_DOT, m_DOT⟩ := i_DOT.mg X NG
  obtain ⟨t_BAD_LINES, m_BAD_LINES⟩ := i_BAD_LINES.mg X NG
  obtain ⟨t_BAD_PIECE_ROWS, m_BAD_PIECE_ROWS⟩ := i_BAD_PIECE_ROWS.mg X NG
  obtain ⟨t_BAD_GLOSS_ROWS, m_BAD_GLOSS_ROWS⟩ := i_BAD_GLOSS_ROWS.mg X NG
  obtain ⟨t_EMPTY_PART, m_EMPTY_PART⟩ := i_EMPTY_PART.mg X NG
  obtain ⟨t_OTHER_SEAMS, m_OTHER_SEAMS⟩ := i_OTHER_SEAMS.mg X NG
  obtain ⟨t_OTHER_WORD, m_OTHER_WORD⟩ := i_OTHER_WORD.mg X NG
  obtain ⟨t_TOO_MANY, m_TOO_MANY⟩ := i_TOO_MANY.mg X NG
  obtain ⟨t_MOST_ITEMS, m_MOST_ITEMS⟩ := i_MOST_ITEMS.mg X NG
  obtain ⟨t_MOST_WORDS, m_MOST_WORDS⟩ := i_MOST_WORDS.mg X NG
  obtain ⟨t_MOST_PIECES, m_MOST_PIECES⟩ := i_MOST_PIECES.mg X NG
  obtain ⟨t_NO_SEAM, m_NO_SEAM⟩ := i_NO_SEAM.mg X NG
  obtain ⟨t_SEAM, m_SEAM⟩ := i_SEAM.mg X NG
  obtain ⟨t_FORM, m_FORM⟩ := i_FORM.mg X NG
  obtain ⟨t_GLOSS, m_GLOSS⟩ := i_GLOSS.mg X NG
  obtain ⟨t_KIND_OF_NONE, m_KIND_OF_NONE⟩ := i_KIND_OF_NONE.mg X NG
  obtain ⟨t_MOST_STEPS, m_MOST_STEPS⟩ := i_MOST_STEPS.mg X NG
  obtain ⟨t_MOST_GAP, m_MOST_GAP⟩ := i_MOST_GAP.mg X NG
  obtain ⟨t_MOST_WANTED, m_MOST_WANTED⟩ := i_MOST_WANTED.mg X NG
  obtain ⟨t_MOST_KIND, m_MOST_KIND⟩ := i_MOST_KIND.mg X NG
  obtain ⟨t_OUT_OF_BOUNDS, m_OUT_OF_BOUNDS⟩ := i_OUT_OF_BOUNDS.mg X NG
  obtain ⟨t_NOT_THERE, m_NOT_THERE⟩ := i_NOT_THERE.mg X NG
  obtain ⟨t_FAULTY, m_FAULTY⟩ := i_FAULTY.mg X NG
  obtain ⟨t_MOST_BYTES, m_MOST_BYTES⟩ := i_MOST_BYTES.mg X NG
  obtain ⟨t_MOST_ROWS, m_MOST_ROWS⟩ := i_MOST_ROWS.mg X NG
  obtain ⟨t_MOST_WORD_BYTES, m_MOST_WORD_BYTES⟩ := i_MOST_WORD_BYTES.mg X NG
  have b_len : mg "len" = none := PySem.W.mg_none_of X NG u_len
  have b_enumerate : mg "enumerate" = none := PySem.W.mg_none_of X NG u_enumerate
  have b_zip : mg "zip" = none := PySem.W.mg_none_of X NG u_zip
  have b_max : mg "max" = none := PySem.W.mg_none_of X NG u_max
  have b_range : mg "range" = none := PySem.W.mg_none_of X NG u_range
  have b_list : mg "list" = none := PySem.W.mg_none_of X NG u_list
  have b_tuple : mg "tuple" = none := PySem.W.mg_none_of X NG u_tuple
  have b_any : mg "any" = none := PySem.W.mg_none_of X NG u_any
  have b_all : mg "all" = none := PySem.W.mg_none_of X NG u_all
  have b_sorted : mg "sorted" = none := PySem.W.mg_none_of X NG u_sorted
  have b_reversed : mg "reversed" = none := PySem.W.mg_none_of X NG u_reversed
  have b_min : mg "min" = none := PySem.W.mg_none_of X NG u_min
  let A : Adr := { Row := c_Row, Text := c_Text, Fault := c_Fault, Word := c_Word, Item := c_Item, Desk := c_Desk, Parting := c_Parting, Step := c_Step, Source := c_Source, BadSteps := c_BadSteps, fI := 0, SEAMS := a_SEAMS }
  have SM : SeamsAt K mg A.SEAMS := .by X NG t_SEAMS
  have BT : BadT K mg A.BadSteps := .by X NG d_BadSteps
  have PT : PtT K A := ⟨d_Parting.cl, n_Parting_text, n_Parting_word, n_Parting_ways, d_Text.cl, n_Text_firsts, n_Text_others⟩
  have SR : SrT K A := ⟨d_Source.cl, n_Source_numbers, n_Source_at⟩
  obtain ⟨fd_answers, F_answers⟩ := d_answers.fn
  refine ⟨fd_answers, ?_, fun base _ _ => ?_⟩
  · obtain ⟨⟨oc, od, kV, doc, pm, an, cdv, ct, osl, rfl, lk, hcd⟩, kp⟩ := F_answers
    exact fun s us hu => match us, hu with | [_], _ => .of_eq rfl
  have R_Row : Rec2 P w K mg base "Row" A.Row "place" "signs" := .by X NG d_Row n_Row_place n_Row_signs (by decide +kernel) fun fI fd F => ⟨ok_Row F d_Row.cl n_Row_place n_Row_signs, F.binds (ps := ["self", "place", "signs"]) fun _ _ _ _ _ _ us hl => match us, hl with | [_, _, _], _ => rfl⟩
  have R_Word : Rec2 P w K mg base "Word" A.Word "rows" "pieces" := .by X NG d_Word n_Word_rows n_Word_pieces (by decide +kernel) fun fI fd F => ⟨ok_Word F d_Word.cl n_Word_rows n_Word_pieces, F.binds (ps := ["self", "rows", "pieces"]) fun _ _ _ _ _ _ us hl => match us, hl with | [_, _, _], _ => rfl⟩
  have R_Item : Rec2 P w K mg base "Item" A.Item "words" "free" := .by X NG d_Item n_Item_words n_Item_free (by decide +kernel) fun fI fd F => ⟨ok_Item F d_Item.cl n_Item_words n_Item_free, F.binds (ps := ["self", "words", "free"]) fun _ _ _ _ _ _ us hl => match us, hl with | [_, _, _], _ => rfl⟩
  have R_Step : Rec2 P w K mg base "Step" A.Step "gap" "wanted" := .by X NG d_Step n_Step_gap n_Step_wanted (by decide +kernel) fun fI fd F => ⟨ok_Step F d_Step.cl n_Step_gap n_Step_wanted, F.binds (ps := ["self", "gap", "wanted"]) fun _ _ _ _ _ _ us hl => match us, hl with | [_, _, _], _ => rfl⟩
  have FL : FltT P w K mg base A.Fault := by
    obtain ⟨f, fd, i, tf, F⟩ := d_Fault.fn
    exact ⟨d_Fault.xc, d_Fault.xf, n_Fault_kind, n_Fault_place, PySem.W.mg_of X NG d_Fault.ns, d_Fault.te, f, fd, i, tf, ok_Fault F d_Fault.xc n_Fault_kind n_Fault_place, F.binds (ps := ["self", "kind", "place"]) fun _ _ _ _ _ _ us hl => match us, hl with | [_, _, _], _ => rfl⟩
  have SRM : SrM P w K mg base A := by
    obtain ⟨f, fd, M, F⟩ := d_Source.fn
    exact ⟨⟨f, fd, M, ok_Source (A := A) F SR, F.binds fun _ _ _ _ _ _ us hl => match us, hl with | [_, _], _ => rfl⟩, PySem.W.mg_of X NG d_Source.ns⟩
  have M_take : MDef P w K mg base CX0 1 "take" A.Source f_take ["self"] (spTake A) := by
    obtain ⟨fd, F⟩ := d_take.fn
    exact ⟨d_take.mt, fd, ok_take (A := A) F SR, F.binds fun _ _ _ _ _ _ us hl => match us, hl with | [_], _ => rfl⟩
  have M_take_up_to : MDef P w K mg base (L2.CX P w) 2 "take_up_to" A.Source f_take_up_to ["self", "most"] (spTakeUp A) := by
    obtain ⟨fd, F⟩ := d_take_up_to.fn
    exact ⟨d_take_up_to.mt, fd, ok_take_up_to (A := A) F SR BT M_take, F.binds fun _ _ _ _ _ _ us hl => match us, hl with | [_, _], _ => rfl⟩
  have M_take_counted : MDef P w K mg base CX0 2 "take_counted" A.Source f_take_counted ["self"] (spTakeC A) := by
    obtain ⟨fd, F⟩ := d_take_counted.fn
    exact ⟨d_take_counted.mt, fd, ok_take_counted (A := A) F SR M_take b_tuple, F.binds fun _ _ _ _ _ _ us hl => match us, hl with | [_], _ => rfl⟩
  obtain ⟨fd_cut_at, F_cut_at⟩ := d_cut_at.fn
  have B_cut_at : Binds K fd_cut_at ["row", "marks"] [] := F_cut_at.binds fun _ _ _ _ _ _ us hl => match us, hl with | [_, _], _ => rfl
  have O_cut_at := ok_cut_at (P := P) (w := w) (mg := mg) (base := base) (A := A) F_cut_at R_Row b_enumerate
  have D_cut_at := Def.by X NG d_cut_at F_cut_at O_cut_at B_cut_at
  have OT_cut_at := ok_cut_atT (P := P) (w := w) (base := base) (A := A) F_cut_at R_Row b_enumerate
  have DT_cut_at := Def.by X NG d_cut_at F_cut_at OT_cut_at B_cut_at
  obtain ⟨fd_lines_of, F_lines_of⟩ := d_lines_of.fn
  have B_lines_of : Binds K fd_lines_of ["text"] [] := F_lines_of.binds fun _ _ _ _ _ _ us hl => match us, hl with | [_], _ => rfl
  have O_lines_of := ok_lines_of (P := P) (w := w) (mg := mg) (base := base) (A := A) F_lines_of R_Row D_cut_at m_LINE_END
  have D_lines_of := Def.by X NG d_lines_of F_lines_of O_lines_of B_lines_of
  obtain ⟨fd_rows_of, F_rows_of⟩ := d_rows_of.fn
  have B_rows_of : Binds K fd_rows_of ["line"] [] := F_rows_of.binds fun _ _ _ _ _ _ us hl => match us, hl with | [_], _ => rfl
  have O_rows_of := ok_rows_of (P := P) (w := w) (mg := mg) (base := base) (A := A) F_rows_of R_Row D_cut_at m_BLANK b_len
  have D_rows_of := Def.by X NG d_rows_of F_rows_of O_rows_of B_rows_of
  obtain ⟨fd_parts_of, F_parts_of⟩ := d_parts_of.fn
  have B_parts_of : Binds K fd_parts_of ["row"] [] := F_parts_of.binds fun _ _ _ _ _ _ us hl => match us, hl with | [_], _ => rfl
  have O_parts_of := ok_parts_of (P := P) (w := w) (mg := mg) (base := base) (A := A) F_parts_of R_Row D_cut_at SM
  have D_parts_of := Def.by X NG d_parts_of F_parts_of O_parts_of B_parts_of
  obtain ⟨fd_seams_of, F_seams_of⟩ := d_seams_of.fn
  have B_seams_of : Binds K fd_seams_of ["row"] [] := F_seams_of.binds fun _ _ _ _ _ _ us hl => match us, hl with | [_], _ => rfl
  have O_seams_of := ok_seams_of (P := P) (w := w) (mg := mg) (base := base) (A := A) F_seams_of R_Row SM
  have D_seams_of := Def.by X NG d_seams_of F_seams_of O_seams_of B_seams_of
  obtain ⟨fd_without_seams, F_without_seams⟩ := d_without_seams.fn
  have B_without_seams : Binds K fd_without_seams ["row"] [] := F_without_seams.binds fun _ _ _ _ _ _ us hl => match us, hl with | [_], _ => rfl
  have O_without_seams := ok_without_seams (P := P) (w := w) (mg := mg) (base := base) (A := A) F_without_seams R_Row SM
  have D_without_seams := Def.by X NG d_without_seams F_without_seams O_without_seams B_without_seams
  obtain ⟨fd_dotted_parts, F_dotted_parts⟩ := d_dotted_parts.fn
  have B_dotted_parts : Binds K fd_dotted_parts ["gloss"] [] := F_dotted_parts.binds fun _ _ _ _ _ _ us hl => match us, hl with | [_], _ => rfl
  have O_dotted_parts := ok_dotted_parts (P := P) (w := w) (mg := mg) (base := base) (A := A) F_dotted_parts R_Row DT_cut_at m_DOT
  have D_dotted_parts := Def.by X NG d_dotted_parts F_dotted_parts O_dotted_parts B_dotted_parts
  obtain ⟨fd_said_line, F_said_line⟩ := d_said_line.fn
  have B_said_line : Binds K fd_said_line ["rows", "widths"] [] := F_said_line.binds fun _ _ _ _ _ _ us hl => match us, hl with | [_, _], _ => rfl
  have O_said_line := ok_said_line (P := P) (w := w) (mg := mg) (base := base) F_said_line b_len b_zip m_LINE_END m_BLANK
  have D_said_line := Def.by X NG d_said_line F_said_line O_said_line B_said_line
  obtain ⟨fd_said_item, F_said_item⟩ := d_said_item.fn
  have B_said_item : Binds K fd_said_item ["item"] [] := F_said_item.binds fun _ _ _ _ _ _ us hl => match us, hl with | [_], _ => rfl
  have O_said_item := ok_said_item (P := P) (w := w) (mg := mg) (base := base) (A := A) F_said_item R_Word R_Item D_said_line b_len b_max b_range m_LINE_END
  have D_said_item := Def.by X NG d_said_item F_said_item O_said_item B_said_item
  obtain ⟨fd_said_text, F_said_text⟩ := d_said_text.fn
  have B_said_text : Binds K fd_said_text ["entries"] [] := F_said_text.binds fun _ _ _ _ _ _ us hl => match us, hl with | [_], _ => rfl
  have O_said_text := ok_said_text (P := P) (w := w) (mg := mg) (base := base) (A := A) F_said_text D_said_item b_len m_LINE_END
  have D_said_text := Def.by X NG d_said_text F_said_text O_said_text B_said_text
  obtain ⟨fd_times_of, F_times_of⟩ := d_times_of.fn
  have B_times_of : Binds K fd_times_of ["entries"] [] := F_times_of.binds fun _ _ _ _ _ _ us hl => match us, hl with | [_], _ => rfl
  have O_times_of := ok_times_of (P := P) (w := w) (mg := mg) (base := base) (A := A) F_times_of R_Word R_Item
  have D_times_of := Def.by X NG d_times_of F_times_of O_times_of B_times_of
  obtain ⟨fd_free_line, F_free_line⟩ := d_free_line.fn
  have B_free_line : Binds K fd_free_line ["lines", "at"] [] := F_free_line.binds fun _ _ _ _ _ _ us hl => match us, hl with | [_, _], _ => rfl
  have O_free_line := ok_free_line (P := P) (w := w) (mg := mg) (base := base) (A := A) F_free_line R_Row b_len m_QUOTE
  have D_free_line := Def.by X NG d_free_line F_free_line O_free_line B_free_line
  obtain ⟨fd_check_line_between, F_check_line_between⟩ := d_check_line_between.fn
  have B_check_line_between : Binds K fd_check_line_between ["lines", "at"] [] := F_check_line_between.binds fun _ _ _ _ _ _ us hl => match us, hl with | [_, _], _ => rfl
  have O_check_line_between := ok_check_line_between (P := P) (w := w) (mg := mg) (base := base) (A := A) F_check_line_between R_Row FL b_len m_BAD_LINES
  have D_check_line_between := Def.by X NG d_check_line_between F_check_line_between O_check_line_between B_check_line_between
  obtain ⟨fd_pieces_of, F_pieces_of⟩ := d_pieces_of.fn
  have B_pieces_of : Binds K fd_pieces_of ["seams", "forms", "meanings"] [] := F_pieces_of.binds fun _ _ _ _ _ _ us hl => match us, hl with | [_, _, _], _ => rfl
  have O_pieces_of := ok_pieces_of (P := P) (w := w) (mg := mg) (base := base) F_pieces_of b_zip b_tuple
  have D_pieces_of := Def.by X NG d_pieces_of F_pieces_of O_pieces_of B_pieces_of
  obtain ⟨fd_word_of, F_word_of⟩ := d_word_of.fn
  have B_word_of : Binds K fd_word_of ["written", "pieces", "glosses"] [] := F_word_of.binds fun _ _ _ _ _ _ us hl => match us, hl with | [_, _, _], _ => rfl
  have O_word_of := ok_word_of (P := P) (w := w) (mg := mg) (base := base) (A := A) F_word_of R_Row R_Word FL D_parts_of D_seams_of D_without_seams D_pieces_of b_len m_EMPTY_PART m_OTHER_SEAMS m_OTHER_WORD m_TOO_MANY m_MOST_PIECES m_NO_SEAM
  have D_word_of := Def.by X NG d_word_of F_word_of O_word_of B_word_of
  obtain ⟨fd_words_of, F_words_of⟩ := d_words_of.fn
  have B_words_of : Binds K fd_words_of ["first", "second", "third"] [] := F_words_of.binds fun _ _ _ _ _ _ us hl => match us, hl with | [_, _, _], _ => rfl
  have O_words_of := ok_words_of (P := P) (w := w) (mg := mg) (base := base) (A := A) F_words_of R_Row FL D_rows_of D_word_of b_len b_zip m_BAD_LINES m_BAD_PIECE_ROWS m_BAD_GLOSS_ROWS m_TOO_MANY m_MOST_WORDS
  have D_words_of := Def.by X NG d_words_of F_words_of O_words_of B_words_of
  obtain ⟨fd_entries_of, F_entries_of⟩ := d_entries_of.fn
  have B_entries_of : Binds K fd_entries_of ["text"] [] := F_entries_of.binds fun _ _ _ _ _ _ us hl => match us, hl with | [_], _ => rfl
  have O_entries_of := ok_entries_of (P := P) (w := w) (mg := mg) (base := base) (A := A) F_entries_of R_Row R_Item FL D_lines_of D_words_of D_free_line D_check_line_between b_len m_BAD_LINES m_TOO_MANY m_LINE_END m_MOST_ITEMS
  have D_entries_of := Def.by X NG d_entries_of F_entries_of O_entries_of B_entries_of
  obtain ⟨fd_counted, F_counted⟩ := d_counted.fn
  have B_counted : Binds K fd_counted ["numbers"] [] := F_counted.binds fun _ _ _ _ _ _ us hl => match us, hl with | [_], _ => rfl
  have O_counted := ok_counted (P := P) (w := w) (mg := mg) (base := base) F_counted b_len
  have D_counted := Def.by X NG d_counted F_counted O_counted B_counted
  obtain ⟨fd_joined, F_joined⟩ := d_joined.fn
  have B_joined : Binds K fd_joined ["rows"] [] := F_joined.binds fun _ _ _ _ _ _ us hl => match us, hl with | [_], _ => rfl
  have O_joined := ok_joined (P := P) (w := w) (mg := mg) (base := base) F_joined 
  have D_joined := Def.by X NG d_joined F_joined O_joined B_joined
  obtain ⟨fd_traits_of, F_traits_of⟩ := d_traits_of.fn
  have B_traits_of : Binds K fd_traits_of ["word"] [] := F_traits_of.binds fun _ _ _ _ _ _ us hl => match us, hl with | [_], _ => rfl
  have O_traits_of := ok_traits_of (P := P) (w := w) (mg := mg) (base := base) (A := A) F_traits_of R_Word D_dotted_parts b_tuple m_FORM m_GLOSS
  have D_traits_of := Def.by X NG d_traits_of F_traits_of O_traits_of B_traits_of
  obtain ⟨fd_traits_of_words, F_traits_of_words⟩ := d_traits_of_words.fn
  have B_traits_of_words : Binds K fd_traits_of_words ["words"] [] := F_traits_of_words.binds fun _ _ _ _ _ _ us hl => match us, hl with | [_], _ => rfl
  have O_traits_of_words := ok_traits_of_words (P := P) (w := w) (mg := mg) (base := base) (A := A) F_traits_of_words D_traits_of
  have D_traits_of_words := Def.by X NG d_traits_of_words F_traits_of_words O_traits_of_words B_traits_of_words
  obtain ⟨fd_has_trait, F_has_trait⟩ := d_has_trait.fn
  have B_has_trait : Binds K fd_has_trait ["traits", "kind", "signs"] [] := F_has_trait.binds fun _ _ _ _ _ _ us hl => match us, hl with | [_, _, _], _ => rfl
  have O_has_trait := ok_has_trait (P := P) (w := w) (mg := mg) (base := base) F_has_trait m_KIND_OF_NONE
  have D_has_trait := Def.by X NG d_has_trait F_has_trait O_has_trait B_has_trait
  obtain ⟨fd_numbers_by, F_numbers_by⟩ := d_numbers_by.fn
  have B_numbers_by : Binds K fd_numbers_by ["part", "numbered"] [] := F_numbers_by.binds fun _ _ _ _ _ _ us hl => match us, hl with | [_, _], _ => rfl
  have O_numbers_by := ok_numbers_by (P := P) (w := w) (mg := mg) (base := base) F_numbers_by 
  have D_numbers_by := Def.by X NG d_numbers_by F_numbers_by O_numbers_by B_numbers_by
  obtain ⟨fd_has_two_glosses, F_has_two_glosses⟩ := d_has_two_glosses.fn
  have B_has_two_glosses : Binds K fd_has_two_glosses ["text", "form"] [] := F_has_two_glosses.binds fun _ _ _ _ _ _ us hl => match us, hl with | [_, _], _ => rfl
  have O_has_two_glosses := ok_has_two_glosses (P := P) (w := w) (mg := mg) (base := base) (A := A) F_has_two_glosses d_Text.cl n_Text_known_pieces n_Text_by_form b_any m_GLOSS
  have D_has_two_glosses := Def.by X NG d_has_two_glosses F_has_two_glosses O_has_two_glosses B_has_two_glosses
  obtain ⟨fd_unlike_forms, F_unlike_forms⟩ := d_unlike_forms.fn
  have B_unlike_forms : Binds K fd_unlike_forms ["text"] [] := F_unlike_forms.binds fun _ _ _ _ _ _ us hl => match us, hl with | [_], _ => rfl
  have O_unlike_forms := ok_unlike_forms (P := P) (w := w) (mg := mg) (base := base) (A := A) F_unlike_forms d_Text.cl n_Text_by_form D_has_two_glosses
  have D_unlike_forms := Def.by X NG d_unlike_forms F_unlike_forms O_unlike_forms B_unlike_forms
  obtain ⟨fd_pieces_between, F_pieces_between⟩ := d_pieces_between.fn
  have B_pieces_between : Binds K fd_pieces_between ["parting", "at", "end"] [] := F_pieces_between.binds fun _ _ _ _ _ _ us hl => match us, hl with | [_, _, _], _ => rfl
  have O_pieces_between := ok_pieces_between (P := P) (w := w) (mg := mg) (base := base) (A := A) F_pieces_between PT b_tuple
  have D_pieces_between := Def.by X NG d_pieces_between F_pieces_between O_pieces_between B_pieces_between
  obtain ⟨fd_ways_from, F_ways_from⟩ := d_ways_from.fn
  have B_ways_from : Binds K fd_ways_from ["parting", "at"] [] := F_ways_from.binds fun _ _ _ _ _ _ us hl => match us, hl with | [_, _], _ => rfl
  have O_ways_from := ok_ways_from (P := P) (w := w) (mg := mg) (base := base) (A := A) F_ways_from PT D_pieces_between b_len b_range
  have D_ways_from := Def.by X NG d_ways_from F_ways_from O_ways_from B_ways_from
  obtain ⟨fd_amount_of_rows, F_amount_of_rows⟩ := d_amount_of_rows.fn
  have B_amount_of_rows : Binds K fd_amount_of_rows ["parting"] [] := F_amount_of_rows.binds fun _ _ _ _ _ _ us hl => match us, hl with | [_], _ => rfl
  have O_amount_of_rows := ok_amount_of_rows (P := P) (w := w) (mg := mg) (base := base) (A := A) F_amount_of_rows PT b_len
  have D_amount_of_rows := Def.by X NG d_amount_of_rows F_amount_of_rows O_amount_of_rows B_amount_of_rows
  obtain ⟨fd_choices_at, F_choices_at⟩ := d_choices_at.fn
  have B_choices_at : Binds K fd_choices_at ["parting", "at", "most"] [] := F_choices_at.binds fun _ _ _ _ _ _ us hl => match us, hl with | [_, _, _], _ => rfl
  have O_choices_at := ok_choices_at (P := P) (w := w) (mg := mg) (base := base) (A := A) F_choices_at PT D_pieces_between b_len b_range b_sorted
  have D_choices_at := Def.by X NG d_choices_at F_choices_at O_choices_at B_choices_at
  obtain ⟨fd_grown, F_grown⟩ := d_grown.fn
  have B_grown : Binds K fd_grown ["begun", "choices"] [] := F_grown.binds fun _ _ _ _ _ _ us hl => match us, hl with | [_, _], _ => rfl
  have O_grown := ok_grown (P := P) (w := w) (mg := mg) (base := base) F_grown b_len
  have D_grown := Def.by X NG d_grown F_grown O_grown B_grown
  obtain ⟨fd_first_rows, F_first_rows⟩ := d_first_rows.fn
  have B_first_rows : Binds K fd_first_rows ["parting", "most"] [] := F_first_rows.binds fun _ _ _ _ _ _ us hl => match us, hl with | [_, _], _ => rfl
  have O_first_rows := ok_first_rows (P := P) (w := w) (mg := mg) (base := base) (A := A) F_first_rows PT D_amount_of_rows D_choices_at D_grown b_len b_range
  have D_first_rows := Def.by X NG d_first_rows F_first_rows O_first_rows B_first_rows
  obtain ⟨fd_step_of, F_step_of⟩ := d_step_of.fn
  have B_step_of : Binds K fd_step_of ["source"] [] := F_step_of.binds fun _ _ _ _ _ _ us hl => match us, hl with | [_], _ => rfl
  have O_step_of := ok_step_of (P := P) (w := w) (mg := mg) (base := base) (A := A) F_step_of SR R_Step M_take_up_to M_take_counted b_range m_MOST_GAP m_MOST_WANTED m_MOST_KIND
  have D_step_of := Def.by X NG d_step_of F_step_of O_step_of B_step_of
  obtain ⟨fd_steps_of, F_steps_of⟩ := d_steps_of.fn
  have B_steps_of : Binds K fd_steps_of ["numbers"] [] := F_steps_of.binds fun _ _ _ _ _ _ us hl => match us, hl with | [_], _ => rfl
  have O_steps_of := ok_steps_of (P := P) (w := w) (mg := mg) (base := base) (A := A) F_steps_of SR BT SRM M_take_up_to D_step_of b_range m_MOST_STEPS
  have D_steps_of := Def.by X NG d_steps_of F_steps_of O_steps_of B_steps_of
  obtain ⟨fd_fits, F_fits⟩ := d_fits.fn
  have B_fits : Binds K fd_fits ["traits", "step"] [] := F_fits.binds fun _ _ _ _ _ _ us hl => match us, hl with | [_, _], _ => rfl
  have O_fits := ok_fits (P := P) (w := w) (mg := mg) (base := base) (A := A) F_fits R_Step D_has_trait b_all
  have D_fits := Def.by X NG d_fits F_fits O_fits B_fits
  obtain ⟨fd_ends_of, F_ends_of⟩ := d_ends_of.fn
  have B_ends_of : Binds K fd_ends_of ["words", "steps"] [] := F_ends_of.binds fun _ _ _ _ _ _ us hl => match us, hl with | [_, _], _ => rfl
  have O_ends_of := ok_ends_of (P := P) (w := w) (mg := mg) (base := base) (A := A) F_ends_of R_Step D_fits b_len b_list b_range b_reversed b_zip b_min
  have D_ends_of := Def.by X NG d_ends_of F_ends_of O_ends_of B_ends_of
  obtain ⟨fd_places_of, F_places_of⟩ := d_places_of.fn
  have B_places_of : Binds K fd_places_of ["text", "steps"] [] := F_places_of.binds fun _ _ _ _ _ _ us hl => match us, hl with | [_, _], _ => rfl
  have O_places_of := ok_places_of (P := P) (w := w) (mg := mg) (base := base) (A := A) F_places_of d_Text.cl n_Text_traits D_ends_of b_len b_enumerate
  have D_places_of := Def.by X NG d_places_of F_places_of O_places_of B_places_of
  have TX : TxT P w K mg base A := by
    obtain ⟨f, fd, M, F⟩ := d_Text.fn
    exact ⟨⟨f, fd, M, ok_Text (A := A) F d_Text.cl n_Text_entries n_Text_times n_Text_known_pieces n_Text_by_form n_Text_by_gloss n_Text_firsts n_Text_others n_Text_traits R_Item D_times_of D_numbers_by D_traits_of_words b_list b_enumerate m_SEAM m_FORM m_GLOSS m_NO_SEAM, F.binds fun _ _ _ _ _ _ us hl => match us, hl with | [_, _], _ => rfl⟩, d_Text.cl, n_Text_entries, n_Text_times, n_Text_known_pieces, n_Text_by_form, n_Text_by_gloss, n_Text_firsts, n_Text_others, n_Text_traits, PySem.W.mg_of X NG d_Text.ns⟩
  have DK : DkT K A := ⟨d_Desk.cl, n_Desk_text⟩
  have DM : DkM P w K mg base A := by
    obtain ⟨f, fd, M, F⟩ := d_Desk.fn
    exact ⟨⟨f, fd, M, ok_Desk (A := A) F d_Desk.cl n_Desk_text TX, F.binds fun _ _ _ _ _ _ us hl => match us, hl with | [_], _ => rfl⟩, PySem.W.mg_of X NG d_Desk.ns⟩
  have PTM : PtM P w K mg base A := by
    obtain ⟨f, fd, M, F⟩ := d_Parting.fn
    exact ⟨⟨f, fd, M, ok_Parting (A := A) F PT D_ways_from b_len b_range, F.binds fun _ _ _ _ _ _ us hl => match us, hl with | [_, _, _], _ => rfl⟩, PySem.W.mg_of X NG d_Parting.ns⟩
  obtain ⟨fd_begins, F_begins⟩ := d_begins.fn
  have B_begins : Binds K fd_begins ["desk", "numbers"] [] := F_begins.binds fun _ _ _ _ _ _ us hl => match us, hl with | [_, _], _ => rfl
  have O_begins := ok_begins (P := P) (w := w) (mg := mg) (base := base) (A := A) F_begins TX DK
  have H_begins : Held P w K mg base 10 f_begins (spDesk P w A (cOf 0) (preOf 0)) := held (x := "") O_begins B_begins F_begins.kp (by decide) h_begins
  obtain ⟨fd_read, F_read⟩ := d_read.fn
  have B_read : Binds K fd_read ["desk", "numbers"] [] := F_read.binds fun _ _ _ _ _ _ us hl => match us, hl with | [_, _], _ => rfl
  have O_read := ok_read (P := P) (w := w) (mg := mg) (base := base) (A := A) F_read TX DK FL D_entries_of b_len m_OUT_OF_BOUNDS m_FAULTY m_MOST_BYTES
  have H_read : Held P w K mg base 10 f_read (spDesk P w A (cOf 1) (preOf 1)) := held (x := "") O_read B_read F_read.kp (by decide) h_read
  obtain ⟨fd_said, F_said⟩ := d_said.fn
  have B_said : Binds K fd_said ["desk", "numbers"] [] := F_said.binds fun _ _ _ _ _ _ us hl => match us, hl with | [_, _], _ => rfl
  have O_said := ok_said (P := P) (w := w) (mg := mg) (base := base) (A := A) F_said TX DK D_said_text D_counted
  have H_said : Held P w K mg base 10 f_said (spDesk P w A (cOf 2) (preOf 2)) := held (x := "") O_said B_said F_said.kp (by decide) h_said
  obtain ⟨fd_item, F_item⟩ := d_item.fn
  have B_item : Binds K fd_item ["desk", "numbers"] [] := F_item.binds fun _ _ _ _ _ _ us hl => match us, hl with | [_, _], _ => rfl
  have O_item := ok_item (P := P) (w := w) (mg := mg) (base := base) (A := A) F_item TX DK R_Word R_Item D_counted b_len m_NOT_THERE
  have H_item : Held P w K mg base 10 f_item (spDesk P w A (cOf 3) (preOf 3)) := held (x := "") O_item B_item F_item.kp (by decide) h_item
  obtain ⟨fd_known, F_known⟩ := d_known.fn
  have B_known : Binds K fd_known ["desk", "numbers"] [] := F_known.binds fun _ _ _ _ _ _ us hl => match us, hl with | [_, _], _ => rfl
  have O_known := ok_known (P := P) (w := w) (mg := mg) (base := base) (A := A) F_known TX DK b_len
  have H_known : Held P w K mg base 10 f_known (spDesk P w A (cOf 4) (preOf 4)) := held (x := "") O_known B_known F_known.kp (by decide) h_known
  obtain ⟨fd_piece, F_piece⟩ := d_piece.fn
  have B_piece : Binds K fd_piece ["desk", "numbers"] [] := F_piece.binds fun _ _ _ _ _ _ us hl => match us, hl with | [_, _], _ => rfl
  have O_piece := ok_piece (P := P) (w := w) (mg := mg) (base := base) (A := A) F_piece TX DK D_counted b_len b_list m_NOT_THERE m_SEAM m_FORM m_GLOSS
  have H_piece : Held P w K mg base 10 f_piece (spDesk P w A (cOf 5) (preOf 5)) := held (x := "") O_piece B_piece F_piece.kp (by decide) h_piece
  obtain ⟨fd_glosses, F_glosses⟩ := d_glosses.fn
  have B_glosses : Binds K fd_glosses ["desk", "numbers"] [] := F_glosses.binds fun _ _ _ _ _ _ us hl => match us, hl with | [_, _], _ => rfl
  have O_glosses := ok_glosses (P := P) (w := w) (mg := mg) (base := base) (A := A) F_glosses TX DK D_counted b_tuple
  have H_glosses : Held P w K mg base 10 f_glosses (spDesk P w A (cOf 6) (preOf 6)) := held (x := "") O_glosses B_glosses F_glosses.kp (by decide) h_glosses
  obtain ⟨fd_forms, F_forms⟩ := d_forms.fn
  have B_forms : Binds K fd_forms ["desk", "numbers"] [] := F_forms.binds fun _ _ _ _ _ _ us hl => match us, hl with | [_, _], _ => rfl
  have O_forms := ok_forms (P := P) (w := w) (mg := mg) (base := base) (A := A) F_forms TX DK D_counted b_tuple
  have H_forms : Held P w K mg base 10 f_forms (spDesk P w A (cOf 7) (preOf 7)) := held (x := "") O_forms B_forms F_forms.kp (by decide) h_forms
  obtain ⟨fd_unlike, F_unlike⟩ := d_unlike.fn
  have B_unlike : Binds K fd_unlike ["desk", "numbers"] [] := F_unlike.binds fun _ _ _ _ _ _ us hl => match us, hl with | [_, _], _ => rfl
  have O_unlike := ok_unlike (P := P) (w := w) (mg := mg) (base := base) (A := A) F_unlike TX DK D_unlike_forms D_counted D_joined b_len b_list
  have H_unlike : Held P w K mg base 10 f_unlike (spDesk P w A (cOf 8) (preOf 8)) := held (x := "") O_unlike B_unlike F_unlike.kp (by decide) h_unlike
  obtain ⟨fd_apart, F_apart⟩ := d_apart.fn
  have B_apart : Binds K fd_apart ["desk", "numbers"] [] := F_apart.binds fun _ _ _ _ _ _ us hl => match us, hl with | [_, _], _ => rfl
  have O_apart := ok_apart (P := P) (w := w) (mg := mg) (base := base) (A := A) F_apart TX DK PTM D_amount_of_rows D_counted D_joined D_first_rows b_len m_OUT_OF_BOUNDS m_MOST_ROWS m_MOST_WORD_BYTES
  have H_apart : Held P w K mg base 10 f_apart (spDesk P w A (cOf 9) (preOf 9)) := held (x := "") O_apart B_apart F_apart.kp (by decide) h_apart
  obtain ⟨fd_find, F_find⟩ := d_find.fn
  have B_find : Binds K fd_find ["desk", "numbers"] [] := F_find.binds fun _ _ _ _ _ _ us hl => match us, hl with | [_, _], _ => rfl
  have O_find := ok_find (P := P) (w := w) (mg := mg) (base := base) (A := A) F_find TX DK BT D_steps_of D_places_of D_joined b_len m_OUT_OF_BOUNDS
  have H_find : Held P w K mg base 10 f_find (spDesk P w A (cOf 10) (preOf 10)) := held (x := "") O_find B_find F_find.kp (by decide) (fun ns h => ⟨h_find ns h, rfl⟩)
  have CT : CallsT P w K mg base A a_CALLS := by
    refine ⟨PySem.W.mg_of X NG t_CALLS.ns, [f_begins, f_read, f_said, f_item, f_known, f_piece, f_glosses, f_forms, f_unlike, f_apart, f_find], fun H => t_CALLS.sq (refs_vals _) (by show 11 ≤ 1000; decide) H, fun p hp => ?_⟩
    match p, hp with
    | 0, _ => exact ⟨f_begins, rfl, H_begins⟩
    | 1, _ => exact ⟨f_read, rfl, H_read⟩
    | 2, _ => exact ⟨f_said, rfl, H_said⟩
    | 3, _ => exact ⟨f_item, rfl, H_item⟩
    | 4, _ => exact ⟨f_known, rfl, H_known⟩
    | 5, _ => exact ⟨f_piece, rfl, H_piece⟩
    | 6, _ => exact ⟨f_glosses, rfl, H_glosses⟩
    | 7, _ => exact ⟨f_forms, rfl, H_forms⟩
    | 8, _ => exact ⟨f_unlike, rfl, H_unlike⟩
    | 9, _ => exact ⟨f_apart, rfl, H_apart⟩
    | 10, _ => exact ⟨f_find, rfl, H_find⟩
    | p + 11, hp => exact absurd hp (by omega)
  exact ok_answers (A := A) F_answers DM CT D_counted b_len
end G

end

section
set_option Elab.async false
set_option linter.all false
set_option maxRecDepth 100000
set_option maxHeartbeats 4000000
namespace G
open PySem PySem.W PyProof.Rows L2
theorem nis_toI (b : Bytes) : (toI b).map V.int = nis b := by
  unfold toI nis
  rw [List.map_map]
  rfl
theorem asked_ok (K : PySem.W.Frag) (H : Hp) (xs : List V) (a : Codec.denoteAll PySem.Challenge.rw_glossrows_s01_answers.args) (hO : OnlyF H) (hwi : Codec.withinAll PySem.Challenge.rw_glossrows_s01_answers.args a = true)
    (hask : Codec.app PySem.Challenge.rw_glossrows_s01_answers.args PySem.Challenge.rw_glossrows_s01_answers.asked a = true) (hx : DwAll K H xs (Codec.encAll PySem.Challenge.rw_glossrows_s01_answers.args a)) :
    spAns K xs H (fun v H' => Dw K H' v (PySem.Challenge.rw_glossrows_s01_answers.ret.enc (Codec.app PySem.Challenge.rw_glossrows_s01_answers.args PySem.Challenge.rw_glossrows_s01_answers.f a))) fun _ _ _ => False := by
  cases hx with
  | cons h1 h2 =>
    cases h2
    cases h1 with
    | lst hs ha =>
      have e := L2.ints_dw a.1 _ ha
      subst e
      have q : ((Codec.inLen 0 30000 a.1 && a.1.all (Codec.inInt 0 4294967295)) && true) = true := hwi
      rw [Bool.and_eq_true, Bool.and_eq_true] at q
      have hl := (Codec.inNat_iff.mp q.1.1).2
      have hz : ∀ z ∈ a.1, (0 : Int) ≤ z := fun z hz => by
        have := List.all_eq_true.mp q.1.2 z hz
        unfold Codec.inInt at this
        simp only [Bool.and_eq_true, decide_eq_true_eq] at this
        exact this.1
      have hq : PySx05.answers_asked a.1 = true := hask
      obtain ⟨b, cs, e1, e2, e3, e4⟩ := line_of hq hz
      have hf : Codec.app PySem.Challenge.rw_glossrows_s01_answers.args PySem.Challenge.rw_glossrows_s01_answers.f a = PySx05.answers a.1 := rfl
      refine ⟨_, b, cs, rfl, ?_, e2, ?_, e3, fun H' p s hp => ?_⟩
      · rw [← nis_toI, ← e1]
        exact hs
      · rw [← toI_length, ← e1]
        exact hl
      · rw [hf, e4]
        exact .lst (L2.SqL.of hp) (L2.dw_ints _)
end G

end

set_option Elab.async false
set_option linter.all false
set_option maxRecDepth 100000
set_option maxHeartbeats 8000000
open PySem PySem.W PyProof.Rows
set_option maxRecDepth 100000 in
set_option maxHeartbeats 8000000 in
theorem PySem.Challenge.cw_glossrows_s01_answers_holds : PySem.Challenge.rw_glossrows_s01_answers.Holds := by
  w_on; k_headS; (case hw => exact ⟨[.list [.int 0, .int 0, .int 0]], by decide +kernel, by decide +kernel⟩)
  k_fillS
  refine L2.walk_specK (r := PySem.Challenge.rw_glossrows_s01_answers) (k := 12) (CX := L2.CX0) (ps := ["calls"]) (sp := G.spAns) (by decide +kernel) rfl rfl ⟨rfl, by decide, by decide⟩ (fun w h Y => PySem.W.kIn_of Y) ?F ?S (fun _ _ _ _ z => z)
  case F =>
    intro w mg fa h Y KX NG hmg
    obtain ⟨f_cut_at, d_cut_at⟩ : ∃ f, G.DefAt (PySem.Challenge.cw_glossrows_s01_answers_holds.heap_1 w.params) "cut_at" "cut_at" G.s_cut_at f := by
      refine' ⟨_, G.DefAt.by ?a_cut_at ?l_cut_at ?c_cut_at ?k_cut_at⟩
      (case a_cut_at => k_is); (case l_cut_at => k_is); (case c_cut_at => k_is); (case k_cut_at => k_is)
    obtain ⟨f_lines_of, d_lines_of⟩ : ∃ f, G.DefAt (PySem.Challenge.cw_glossrows_s01_answers_holds.heap_1 w.params) "lines_of" "lines_of" G.s_lines_of f := by
      refine' ⟨_, G.DefAt.by ?a_lines_of ?l_lines_of ?c_lines_of ?k_lines_of⟩
      (case a_lines_of => k_is); (case l_lines_of => k_is); (case c_lines_of => k_is); (case k_lines_of => k_is)
    obtain ⟨f_rows_of, d_rows_of⟩ : ∃ f, G.DefAt (PySem.Challenge.cw_glossrows_s01_answers_holds.heap_1 w.params) "rows_of" "rows_of" G.s_rows_of f := by
      refine' ⟨_, G.DefAt.by ?a_rows_of ?l_rows_of ?c_rows_of ?k_rows_of⟩
      (case a_rows_of => k_is); (case l_rows_of => k_is); (case c_rows_of => k_is); (case k_rows_of => k_is)
    obtain ⟨f_parts_of, d_parts_of⟩ : ∃ f, G.DefAt (PySem.Challenge.cw_glossrows_s01_answers_holds.heap_1 w.params) "parts_of" "parts_of" G.s_parts_of f := by
      refine' ⟨_, G.DefAt.by ?a_parts_of ?l_parts_of ?c_parts_of ?k_parts_of⟩
      (case a_parts_of => k_is); (case l_parts_of => k_is); (case c_parts_of => k_is); (case k_parts_of => k_is)
    obtain ⟨f_seams_of, d_seams_of⟩ : ∃ f, G.DefAt (PySem.Challenge.cw_glossrows_s01_answers_holds.heap_1 w.params) "seams_of" "seams_of" G.s_seams_of f := by
      refine' ⟨_, G.DefAt.by ?a_seams_of ?l_seams_of ?c_seams_of ?k_seams_of⟩
      (case a_seams_of => k_is); (case l_seams_of => k_is); (case c_seams_of => k_is); (case k_seams_of => k_is)
    obtain ⟨f_without_seams, d_without_seams⟩ : ∃ f, G.DefAt (PySem.Challenge.cw_glossrows_s01_answers_holds.heap_1 w.params) "without_seams" "without_seams" G.s_without_seams f := by
      refine' ⟨_, G.DefAt.by ?a_without_seams ?l_without_seams ?c_without_seams ?k_without_seams⟩
      (case a_without_seams => k_is); (case l_without_seams => k_is); (case c_without_seams => k_is); (case k_without_seams => k_is)
    obtain ⟨f_dotted_parts, d_dotted_parts⟩ : ∃ f, G.DefAt (PySem.Challenge.cw_glossrows_s01_answers_holds.heap_1 w.params) "dotted_parts" "dotted_parts" G.s_dotted_parts f := by
      refine' ⟨_, G.DefAt.by ?a_dotted_parts ?l_dotted_parts ?c_dotted_parts ?k_dotted_parts⟩
      (case a_dotted_parts => k_is); (case l_dotted_parts => k_is); (case c_dotted_parts => k_is); (case k_dotted_parts => k_is)
    obtain ⟨f_said_text, d_said_text⟩ : ∃ f, G.DefAt (PySem.Challenge.cw_glossrows_s01_answers_holds.heap_1 w.params) "said_text" "said_text" G.s_said_text f := by
      refine' ⟨_, G.DefAt.by ?a_said_text ?l_said_text ?c_said_text ?k_said_text⟩
      (case a_said_text => k_is); (case l_said_text => k_is); (case c_said_text => k_is); (case k_said_text => k_is)
    obtain ⟨f_said_item, d_said_item⟩ : ∃ f, G.DefAt (PySem.Challenge.cw_glossrows_s01_answers_holds.heap_1 w.params) "said_item" "said_item" G.s_said_item f := by
      refine' ⟨_, G.DefAt.by ?a_said_item ?l_said_item ?c_said_item ?k_said_item⟩
      (case a_said_item => k_is); (case l_said_item => k_is); (case c_said_item => k_is); (case k_said_item => k_is)
    obtain ⟨f_said_line, d_said_line⟩ : ∃ f, G.DefAt (PySem.Challenge.cw_glossrows_s01_answers_holds.heap_1 w.params) "said_line" "said_line" G.s_said_line f := by
      refine' ⟨_, G.DefAt.by ?a_said_line ?l_said_line ?c_said_line ?k_said_line⟩
      (case a_said_line => k_is); (case l_said_line => k_is); (case c_said_line => k_is); (case k_said_line => k_is)
    obtain ⟨f_entries_of, d_entries_of⟩ : ∃ f, G.DefAt (PySem.Challenge.cw_glossrows_s01_answers_holds.heap_1 w.params) "entries_of" "entries_of" G.s_entries_of f := by
      refine' ⟨_, G.DefAt.by ?a_entries_of ?l_entries_of ?c_entries_of ?k_entries_of⟩
      (case a_entries_of => k_is); (case l_entries_of => k_is); (case c_entries_of => k_is); (case k_entries_of => k_is)
    obtain ⟨f_free_line, d_free_line⟩ : ∃ f, G.DefAt (PySem.Challenge.cw_glossrows_s01_answers_holds.heap_1 w.params) "free_line" "free_line" G.s_free_line f := by
      refine' ⟨_, G.DefAt.by ?a_free_line ?l_free_line ?c_free_line ?k_free_line⟩
      (case a_free_line => k_is); (case l_free_line => k_is); (case c_free_line => k_is); (case k_free_line => k_is)
    obtain ⟨f_check_line_between, d_check_line_between⟩ : ∃ f, G.DefAt (PySem.Challenge.cw_glossrows_s01_answers_holds.heap_1 w.params) "check_line_between" "check_line_between" G.s_check_line_between f := by
      refine' ⟨_, G.DefAt.by ?a_check_line_between ?l_check_line_between ?c_check_line_between ?k_check_line_between⟩
      (case a_check_line_between => k_is); (case l_check_line_between => k_is); (case c_check_line_between => k_is); (case k_check_line_between => k_is)
    obtain ⟨f_words_of, d_words_of⟩ : ∃ f, G.DefAt (PySem.Challenge.cw_glossrows_s01_answers_holds.heap_1 w.params) "words_of" "words_of" G.s_words_of f := by
      refine' ⟨_, G.DefAt.by ?a_words_of ?l_words_of ?c_words_of ?k_words_of⟩
      (case a_words_of => k_is); (case l_words_of => k_is); (case c_words_of => k_is); (case k_words_of => k_is)
    obtain ⟨f_word_of, d_word_of⟩ : ∃ f, G.DefAt (PySem.Challenge.cw_glossrows_s01_answers_holds.heap_1 w.params) "word_of" "word_of" G.s_word_of f := by
      refine' ⟨_, G.DefAt.by ?a_word_of ?l_word_of ?c_word_of ?k_word_of⟩
      (case a_word_of => k_is); (case l_word_of => k_is); (case c_word_of => k_is); (case k_word_of => k_is)
    obtain ⟨f_pieces_of, d_pieces_of⟩ : ∃ f, G.DefAt (PySem.Challenge.cw_glossrows_s01_answers_holds.heap_1 w.params) "pieces_of" "pieces_of" G.s_pieces_of f := by
      refine' ⟨_, G.DefAt.by ?a_pieces_of ?l_pieces_of ?c_pieces_of ?k_pieces_of⟩
      (case a_pieces_of => k_is); (case l_pieces_of => k_is); (case c_pieces_of => k_is); (case k_pieces_of => k_is)
    obtain ⟨f_traits_of_words, d_traits_of_words⟩ : ∃ f, G.DefAt (PySem.Challenge.cw_glossrows_s01_answers_holds.heap_1 w.params) "traits_of_words" "traits_of_words" G.s_traits_of_words f := by
      refine' ⟨_, G.DefAt.by ?a_traits_of_words ?l_traits_of_words ?c_traits_of_words ?k_traits_of_words⟩
      (case a_traits_of_words => k_is); (case l_traits_of_words => k_is); (case c_traits_of_words => k_is); (case k_traits_of_words => k_is)
    obtain ⟨f_traits_of, d_traits_of⟩ : ∃ f, G.DefAt (PySem.Challenge.cw_glossrows_s01_answers_holds.heap_1 w.params) "traits_of" "traits_of" G.s_traits_of f := by
      refine' ⟨_, G.DefAt.by ?a_traits_of ?l_traits_of ?c_traits_of ?k_traits_of⟩
      (case a_traits_of => k_is); (case l_traits_of => k_is); (case c_traits_of => k_is); (case k_traits_of => k_is)
    obtain ⟨f_has_trait, d_has_trait⟩ : ∃ f, G.DefAt (PySem.Challenge.cw_glossrows_s01_answers_holds.heap_1 w.params) "has_trait" "has_trait" G.s_has_trait f := by
      refine' ⟨_, G.DefAt.by ?a_has_trait ?l_has_trait ?c_has_trait ?k_has_trait⟩
      (case a_has_trait => k_is); (case l_has_trait => k_is); (case c_has_trait => k_is); (case k_has_trait => k_is)
    obtain ⟨f_times_of, d_times_of⟩ : ∃ f, G.DefAt (PySem.Challenge.cw_glossrows_s01_answers_holds.heap_1 w.params) "times_of" "times_of" G.s_times_of f := by
      refine' ⟨_, G.DefAt.by ?a_times_of ?l_times_of ?c_times_of ?k_times_of⟩
      (case a_times_of => k_is); (case l_times_of => k_is); (case c_times_of => k_is); (case k_times_of => k_is)
    obtain ⟨f_numbers_by, d_numbers_by⟩ : ∃ f, G.DefAt (PySem.Challenge.cw_glossrows_s01_answers_holds.heap_1 w.params) "numbers_by" "numbers_by" G.s_numbers_by f := by
      refine' ⟨_, G.DefAt.by ?a_numbers_by ?l_numbers_by ?c_numbers_by ?k_numbers_by⟩
      (case a_numbers_by => k_is); (case l_numbers_by => k_is); (case c_numbers_by => k_is); (case k_numbers_by => k_is)
    obtain ⟨f_unlike_forms, d_unlike_forms⟩ : ∃ f, G.DefAt (PySem.Challenge.cw_glossrows_s01_answers_holds.heap_1 w.params) "unlike_forms" "unlike_forms" G.s_unlike_forms f := by
      refine' ⟨_, G.DefAt.by ?a_unlike_forms ?l_unlike_forms ?c_unlike_forms ?k_unlike_forms⟩
      (case a_unlike_forms => k_is); (case l_unlike_forms => k_is); (case c_unlike_forms => k_is); (case k_unlike_forms => k_is)
    obtain ⟨f_has_two_glosses, d_has_two_glosses⟩ : ∃ f, G.DefAt (PySem.Challenge.cw_glossrows_s01_answers_holds.heap_1 w.params) "has_two_glosses" "has_two_glosses" G.s_has_two_glosses f := by
      refine' ⟨_, G.DefAt.by ?a_has_two_glosses ?l_has_two_glosses ?c_has_two_glosses ?k_has_two_glosses⟩
      (case a_has_two_glosses => k_is); (case l_has_two_glosses => k_is); (case c_has_two_glosses => k_is); (case k_has_two_glosses => k_is)
    obtain ⟨f_pieces_between, d_pieces_between⟩ : ∃ f, G.DefAt (PySem.Challenge.cw_glossrows_s01_answers_holds.heap_1 w.params) "pieces_between" "pieces_between" G.s_pieces_between f := by
      refine' ⟨_, G.DefAt.by ?a_pieces_between ?l_pieces_between ?c_pieces_between ?k_pieces_between⟩
      (case a_pieces_between => k_is); (case l_pieces_between => k_is); (case c_pieces_between => k_is); (case k_pieces_between => k_is)
    obtain ⟨f_ways_from, d_ways_from⟩ : ∃ f, G.DefAt (PySem.Challenge.cw_glossrows_s01_answers_holds.heap_1 w.params) "ways_from" "ways_from" G.s_ways_from f := by
      refine' ⟨_, G.DefAt.by ?a_ways_from ?l_ways_from ?c_ways_from ?k_ways_from⟩
      (case a_ways_from => k_is); (case l_ways_from => k_is); (case c_ways_from => k_is); (case k_ways_from => k_is)
    obtain ⟨f_amount_of_rows, d_amount_of_rows⟩ : ∃ f, G.DefAt (PySem.Challenge.cw_glossrows_s01_answers_holds.heap_1 w.params) "amount_of_rows" "amount_of_rows" G.s_amount_of_rows f := by
      refine' ⟨_, G.DefAt.by ?a_amount_of_rows ?l_amount_of_rows ?c_amount_of_rows ?k_amount_of_rows⟩
      (case a_amount_of_rows => k_is); (case l_amount_of_rows => k_is); (case c_amount_of_rows => k_is); (case k_amount_of_rows => k_is)
    obtain ⟨f_first_rows, d_first_rows⟩ : ∃ f, G.DefAt (PySem.Challenge.cw_glossrows_s01_answers_holds.heap_1 w.params) "first_rows" "first_rows" G.s_first_rows f := by
      refine' ⟨_, G.DefAt.by ?a_first_rows ?l_first_rows ?c_first_rows ?k_first_rows⟩
      (case a_first_rows => k_is); (case l_first_rows => k_is); (case c_first_rows => k_is); (case k_first_rows => k_is)
    obtain ⟨f_grown, d_grown⟩ : ∃ f, G.DefAt (PySem.Challenge.cw_glossrows_s01_answers_holds.heap_1 w.params) "grown" "grown" G.s_grown f := by
      refine' ⟨_, G.DefAt.by ?a_grown ?l_grown ?c_grown ?k_grown⟩
      (case a_grown => k_is); (case l_grown => k_is); (case c_grown => k_is); (case k_grown => k_is)
    obtain ⟨f_choices_at, d_choices_at⟩ : ∃ f, G.DefAt (PySem.Challenge.cw_glossrows_s01_answers_holds.heap_1 w.params) "choices_at" "choices_at" G.s_choices_at f := by
      refine' ⟨_, G.DefAt.by ?a_choices_at ?l_choices_at ?c_choices_at ?k_choices_at⟩
      (case a_choices_at => k_is); (case l_choices_at => k_is); (case c_choices_at => k_is); (case k_choices_at => k_is)
    obtain ⟨f_steps_of, d_steps_of⟩ : ∃ f, G.DefAt (PySem.Challenge.cw_glossrows_s01_answers_holds.heap_1 w.params) "steps_of" "steps_of" G.s_steps_of f := by
      refine' ⟨_, G.DefAt.by ?a_steps_of ?l_steps_of ?c_steps_of ?k_steps_of⟩
      (case a_steps_of => k_is); (case l_steps_of => k_is); (case c_steps_of => k_is); (case k_steps_of => k_is)
    obtain ⟨f_step_of, d_step_of⟩ : ∃ f, G.DefAt (PySem.Challenge.cw_glossrows_s01_answers_holds.heap_1 w.params) "step_of" "step_of" G.s_step_of f := by
      refine' ⟨_, G.DefAt.by ?a_step_of ?l_step_of ?c_step_of ?k_step_of⟩
      (case a_step_of => k_is); (case l_step_of => k_is); (case c_step_of => k_is); (case k_step_of => k_is)
    obtain ⟨f_places_of, d_places_of⟩ : ∃ f, G.DefAt (PySem.Challenge.cw_glossrows_s01_answers_holds.heap_1 w.params) "places_of" "places_of" G.s_places_of f := by
      refine' ⟨_, G.DefAt.by ?a_places_of ?l_places_of ?c_places_of ?k_places_of⟩
      (case a_places_of => k_is); (case l_places_of => k_is); (case c_places_of => k_is); (case k_places_of => k_is)
    obtain ⟨f_ends_of, d_ends_of⟩ : ∃ f, G.DefAt (PySem.Challenge.cw_glossrows_s01_answers_holds.heap_1 w.params) "ends_of" "ends_of" G.s_ends_of f := by
      refine' ⟨_, G.DefAt.by ?a_ends_of ?l_ends_of ?c_ends_of ?k_ends_of⟩
      (case a_ends_of => k_is); (case l_ends_of => k_is); (case c_ends_of => k_is); (case k_ends_of => k_is)
    obtain ⟨f_fits, d_fits⟩ : ∃ f, G.DefAt (PySem.Challenge.cw_glossrows_s01_answers_holds.heap_1 w.params) "fits" "fits" G.s_fits f := by
      refine' ⟨_, G.DefAt.by ?a_fits ?l_fits ?c_fits ?k_fits⟩
      (case a_fits => k_is); (case l_fits => k_is); (case c_fits => k_is); (case k_fits => k_is)
    obtain ⟨f_counted, d_counted⟩ : ∃ f, G.DefAt (PySem.Challenge.cw_glossrows_s01_answers_holds.heap_1 w.params) "counted" "counted" G.s_counted f := by
      refine' ⟨_, G.DefAt.by ?a_counted ?l_counted ?c_counted ?k_counted⟩
      (case a_counted => k_is); (case l_counted => k_is); (case c_counted => k_is); (case k_counted => k_is)
    obtain ⟨f_joined, d_joined⟩ : ∃ f, G.DefAt (PySem.Challenge.cw_glossrows_s01_answers_holds.heap_1 w.params) "joined" "joined" G.s_joined f := by
      refine' ⟨_, G.DefAt.by ?a_joined ?l_joined ?c_joined ?k_joined⟩
      (case a_joined => k_is); (case l_joined => k_is); (case c_joined => k_is); (case k_joined => k_is)
    obtain ⟨f_answers, d_answers⟩ : ∃ f, G.DefAt (PySem.Challenge.cw_glossrows_s01_answers_holds.heap_1 w.params) "answers" "answers" G.s_answers f := by
      refine' ⟨_, G.DefAt.by ?a_answers ?l_answers ?c_answers ?k_answers⟩
      (case a_answers => k_is); (case l_answers => k_is); (case c_answers => k_is); (case k_answers => k_is)
    obtain ⟨c_Row, d_Row, n_Row_place, n_Row_signs⟩ : ∃ C , G.ClsAt (PySem.Challenge.cw_glossrows_s01_answers_holds.heap_1 w.params) "Row" "Row.__init__" G.s_Row C ∧ PySem.W.findIn (PySem.Challenge.cw_glossrows_s01_answers_holds.heap_1 w.params) (.ref C) "place" = some none ∧ PySem.W.findIn (PySem.Challenge.cw_glossrows_s01_answers_holds.heap_1 w.params) (.ref C) "signs" = some none := by
      refine' ⟨_, G.ClsAt.by ?a_Row ?i_Row ?b_Row ?l_Row ?c_Row ?k_Row ?pg_Row ?hd_Row ?po_Row ?sa_Row ?mk_Row ?kc_Row, ?n0_Row, ?n1_Row⟩
      (case a_Row => k_is); (case i_Row => k_is); (case b_Row => k_is); (case l_Row => k_is); (case c_Row => k_is); (case k_Row => k_is); (case pg_Row => k_is); (case hd_Row => k_is); (case po_Row => k_is); (case sa_Row => k_is); (case mk_Row => k_is); (case kc_Row => k_is); (case n0_Row => k_is); (case n1_Row => k_is)
    obtain ⟨c_Word, d_Word, n_Word_rows, n_Word_pieces⟩ : ∃ C , G.ClsAt (PySem.Challenge.cw_glossrows_s01_answers_holds.heap_1 w.params) "Word" "Word.__init__" G.s_Word C ∧ PySem.W.findIn (PySem.Challenge.cw_glossrows_s01_answers_holds.heap_1 w.params) (.ref C) "rows" = some none ∧ PySem.W.findIn (PySem.Challenge.cw_glossrows_s01_answers_holds.heap_1 w.params) (.ref C) "pieces" = some none := by
      refine' ⟨_, G.ClsAt.by ?a_Word ?i_Word ?b_Word ?l_Word ?c_Word ?k_Word ?pg_Word ?hd_Word ?po_Word ?sa_Word ?mk_Word ?kc_Word, ?n0_Word, ?n1_Word⟩
      (case a_Word => k_is); (case i_Word => k_is); (case b_Word => k_is); (case l_Word => k_is); (case c_Word => k_is); (case k_Word => k_is); (case pg_Word => k_is); (case hd_Word => k_is); (case po_Word => k_is); (case sa_Word => k_is); (case mk_Word => k_is); (case kc_Word => k_is); (case n0_Word => k_is); (case n1_Word => k_is)
    obtain ⟨c_Item, d_Item, n_Item_words, n_Item_free⟩ : ∃ C , G.ClsAt (PySem.Challenge.cw_glossrows_s01_answers_holds.heap_1 w.params) "Item" "Item.__init__" G.s_Item C ∧ PySem.W.findIn (PySem.Challenge.cw_glossrows_s01_answers_holds.heap_1 w.params) (.ref C) "words" = some none ∧ PySem.W.findIn (PySem.Challenge.cw_glossrows_s01_answers_holds.heap_1 w.params) (.ref C) "free" = some none := by
      refine' ⟨_, G.ClsAt.by ?a_Item ?i_Item ?b_Item ?l_Item ?c_Item ?k_Item ?pg_Item ?hd_Item ?po_Item ?sa_Item ?mk_Item ?kc_Item, ?n0_Item, ?n1_Item⟩
      (case a_Item => k_is); (case i_Item => k_is); (case b_Item => k_is); (case l_Item => k_is); (case c_Item => k_is); (case k_Item => k_is); (case pg_Item => k_is); (case hd_Item => k_is); (case po_Item => k_is); (case sa_Item => k_is); (case mk_Item => k_is); (case kc_Item => k_is); (case n0_Item => k_is); (case n1_Item => k_is)
    obtain ⟨c_Text, d_Text, n_Text_entries, n_Text_times, n_Text_known_pieces, n_Text_by_form, n_Text_by_gloss, n_Text_firsts, n_Text_others, n_Text_traits⟩ : ∃ C , G.ClsAt (PySem.Challenge.cw_glossrows_s01_answers_holds.heap_1 w.params) "Text" "Text.__init__" G.s_Text C ∧ PySem.W.findIn (PySem.Challenge.cw_glossrows_s01_answers_holds.heap_1 w.params) (.ref C) "entries" = some none ∧ PySem.W.findIn (PySem.Challenge.cw_glossrows_s01_answers_holds.heap_1 w.params) (.ref C) "times" = some none ∧ PySem.W.findIn (PySem.Challenge.cw_glossrows_s01_answers_holds.heap_1 w.params) (.ref C) "known_pieces" = some none ∧ PySem.W.findIn (PySem.Challenge.cw_glossrows_s01_answers_holds.heap_1 w.params) (.ref C) "by_form" = some none ∧ PySem.W.findIn (PySem.Challenge.cw_glossrows_s01_answers_holds.heap_1 w.params) (.ref C) "by_gloss" = some none ∧ PySem.W.findIn (PySem.Challenge.cw_glossrows_s01_answers_holds.heap_1 w.params) (.ref C) "firsts" = some none ∧ PySem.W.findIn (PySem.Challenge.cw_glossrows_s01_answers_holds.heap_1 w.params) (.ref C) "others" = some none ∧ PySem.W.findIn (PySem.Challenge.cw_glossrows_s01_answers_holds.heap_1 w.params) (.ref C) "traits" = some none := by
      refine' ⟨_, G.ClsAt.by ?a_Text ?i_Text ?b_Text ?l_Text ?c_Text ?k_Text ?pg_Text ?hd_Text ?po_Text ?sa_Text ?mk_Text ?kc_Text, ?n0_Text, ?n1_Text, ?n2_Text, ?n3_Text, ?n4_Text, ?n5_Text, ?n6_Text, ?n7_Text⟩
      (case a_Text => k_is); (case i_Text => k_is); (case b_Text => k_is); (case l_Text => k_is); (case c_Text => k_is); (case k_Text => k_is); (case pg_Text => k_is); (case hd_Text => k_is); (case po_Text => k_is); (case sa_Text => k_is); (case mk_Text => k_is); (case kc_Text => k_is); (case n0_Text => k_is); (case n1_Text => k_is); (case n2_Text => k_is); (case n3_Text => k_is); (case n4_Text => k_is); (case n5_Text => k_is); (case n6_Text => k_is); (case n7_Text => k_is)
    obtain ⟨c_Parting, d_Parting, n_Parting_text, n_Parting_word, n_Parting_ways⟩ : ∃ C , G.ClsAt (PySem.Challenge.cw_glossrows_s01_answers_holds.heap_1 w.params) "Parting" "Parting.__init__" G.s_Parting C ∧ PySem.W.findIn (PySem.Challenge.cw_glossrows_s01_answers_holds.heap_1 w.params) (.ref C) "text" = some none ∧ PySem.W.findIn (PySem.Challenge.cw_glossrows_s01_answers_holds.heap_1 w.params) (.ref C) "word" = some none ∧ PySem.W.findIn (PySem.Challenge.cw_glossrows_s01_answers_holds.heap_1 w.params) (.ref C) "ways" = some none := by
      refine' ⟨_, G.ClsAt.by ?a_Parting ?i_Parting ?b_Parting ?l_Parting ?c_Parting ?k_Parting ?pg_Parting ?hd_Parting ?po_Parting ?sa_Parting ?mk_Parting ?kc_Parting, ?n0_Parting, ?n1_Parting, ?n2_Parting⟩
      (case a_Parting => k_is); (case i_Parting => k_is); (case b_Parting => k_is); (case l_Parting => k_is); (case c_Parting => k_is); (case k_Parting => k_is); (case pg_Parting => k_is); (case hd_Parting => k_is); (case po_Parting => k_is); (case sa_Parting => k_is); (case mk_Parting => k_is); (case kc_Parting => k_is); (case n0_Parting => k_is); (case n1_Parting => k_is); (case n2_Parting => k_is)
    obtain ⟨c_Step, d_Step, n_Step_gap, n_Step_wanted⟩ : ∃ C , G.ClsAt (PySem.Challenge.cw_glossrows_s01_answers_holds.heap_1 w.params) "Step" "Step.__init__" G.s_Step C ∧ PySem.W.findIn (PySem.Challenge.cw_glossrows_s01_answers_holds.heap_1 w.params) (.ref C) "gap" = some none ∧ PySem.W.findIn (PySem.Challenge.cw_glossrows_s01_answers_holds.heap_1 w.params) (.ref C) "wanted" = some none := by
      refine' ⟨_, G.ClsAt.by ?a_Step ?i_Step ?b_Step ?l_Step ?c_Step ?k_Step ?pg_Step ?hd_Step ?po_Step ?sa_Step ?mk_Step ?kc_Step, ?n0_Step, ?n1_Step⟩
      (case a_Step => k_is); (case i_Step => k_is); (case b_Step => k_is); (case l_Step => k_is); (case c_Step => k_is); (case k_Step => k_is); (case pg_Step => k_is); (case hd_Step => k_is); (case po_Step => k_is); (case sa_Step => k_is); (case mk_Step => k_is); (case kc_Step => k_is); (case n0_Step => k_is); (case n1_Step => k_is)
    obtain ⟨c_Source, f_take, f_take_up_to, f_take_counted, d_Source, n_Source_numbers, n_Source_at, d_take, d_take_up_to, d_take_counted⟩ : ∃ C f_take f_take_up_to f_take_counted, G.ClsAt (PySem.Challenge.cw_glossrows_s01_answers_holds.heap_1 w.params) "Source" "Source.__init__" G.s_Source C ∧ PySem.W.findIn (PySem.Challenge.cw_glossrows_s01_answers_holds.heap_1 w.params) (.ref C) "numbers" = some none ∧ PySem.W.findIn (PySem.Challenge.cw_glossrows_s01_answers_holds.heap_1 w.params) (.ref C) "at" = some none ∧ G.MethAt (PySem.Challenge.cw_glossrows_s01_answers_holds.heap_1 w.params) "take" "Source.take" G.s_take C f_take ∧ G.MethAt (PySem.Challenge.cw_glossrows_s01_answers_holds.heap_1 w.params) "take_up_to" "Source.take_up_to" G.s_take_up_to C f_take_up_to ∧ G.MethAt (PySem.Challenge.cw_glossrows_s01_answers_holds.heap_1 w.params) "take_counted" "Source.take_counted" G.s_take_counted C f_take_counted := by
      refine' ⟨_, _, _, _, G.ClsAt.by ?a_Source ?i_Source ?b_Source ?l_Source ?c_Source ?k_Source ?pg_Source ?hd_Source ?po_Source ?sa_Source ?mk_Source ?kc_Source, ?n0_Source, ?n1_Source, G.MethAt.by ?i_take ?b_take ?l_take ?c_take ?k_take, G.MethAt.by ?i_take_up_to ?b_take_up_to ?l_take_up_to ?c_take_up_to ?k_take_up_to, G.MethAt.by ?i_take_counted ?b_take_counted ?l_take_counted ?c_take_counted ?k_take_counted⟩
      (case a_Source => k_is); (case i_Source => k_is); (case b_Source => k_is); (case l_Source => k_is); (case c_Source => k_is); (case k_Source => k_is); (case pg_Source => k_is); (case hd_Source => k_is); (case po_Source => k_is); (case sa_Source => k_is); (case mk_Source => k_is); (case kc_Source => k_is); (case n0_Source => k_is); (case n1_Source => k_is); (case i_take => k_is); (case b_take => k_is); (case l_take => k_is); (case c_take => k_is); (case k_take => k_is); (case i_take_up_to => k_is); (case b_take_up_to => k_is); (case l_take_up_to => k_is); (case c_take_up_to => k_is); (case k_take_up_to => k_is); (case i_take_counted => k_is); (case b_take_counted => k_is); (case l_take_counted => k_is); (case c_take_counted => k_is); (case k_take_counted => k_is)
    obtain ⟨c_Desk, d_Desk, n_Desk_text⟩ : ∃ C , G.ClsAt (PySem.Challenge.cw_glossrows_s01_answers_holds.heap_1 w.params) "Desk" "Desk.__init__" G.s_Desk C ∧ PySem.W.findIn (PySem.Challenge.cw_glossrows_s01_answers_holds.heap_1 w.params) (.ref C) "text" = some none := by
      refine' ⟨_, G.ClsAt.by ?a_Desk ?i_Desk ?b_Desk ?l_Desk ?c_Desk ?k_Desk ?pg_Desk ?hd_Desk ?po_Desk ?sa_Desk ?mk_Desk ?kc_Desk, ?n0_Desk⟩
      (case a_Desk => k_is); (case i_Desk => k_is); (case b_Desk => k_is); (case l_Desk => k_is); (case c_Desk => k_is); (case k_Desk => k_is); (case pg_Desk => k_is); (case hd_Desk => k_is); (case po_Desk => k_is); (case sa_Desk => k_is); (case mk_Desk => k_is); (case kc_Desk => k_is); (case n0_Desk => k_is)
    obtain ⟨c_Fault, d_Fault, n_Fault_kind, n_Fault_place⟩ : ∃ C, G.ExcAt (PySem.Challenge.cw_glossrows_s01_answers_holds.heap_1 w.params) "Fault" "Fault.__init__" G.s_Fault C ∧ PySem.W.findIn (PySem.Challenge.cw_glossrows_s01_answers_holds.heap_1 w.params) (.ref C) "kind" = some none ∧ PySem.W.findIn (PySem.Challenge.cw_glossrows_s01_answers_holds.heap_1 w.params) (.ref C) "place" = some none := by
      refine' ⟨_, G.ExcAt.by ?a_Fault ?xL_Fault ?sa_Fault ?ga_Fault ?gg_Fault ?i_Fault ?tf_Fault ?l_Fault ?c_Fault ?k_Fault ?kc_Fault ?ec_Fault ?tc_Fault ?hc_Fault ?ic_Fault ?sc_Fault, ?n0_Fault, ?n1_Fault⟩
      (case a_Fault => k_is); (case xL_Fault => k_is); (case sa_Fault => k_is); (case ga_Fault => k_is); (case gg_Fault => k_is); (case i_Fault => k_is); (case tf_Fault => k_is); (case l_Fault => k_is); (case c_Fault => k_is); (case k_Fault => k_is); (case kc_Fault => k_is); (case ec_Fault => k_is); (case tc_Fault => k_is); (case hc_Fault => k_is); (case ic_Fault => k_is); (case sc_Fault => first | rfl | k_is); (case n0_Fault => k_is); (case n1_Fault => k_is)
    obtain ⟨c_BadSteps, d_BadSteps⟩ : ∃ C, G.BadAt (PySem.Challenge.cw_glossrows_s01_answers_holds.heap_1 w.params) "BadSteps" C := by
      refine' ⟨_, G.BadAt.by ?a_BadSteps ?xc_BadSteps ?kc_BadSteps ?ec_BadSteps ?tc_BadSteps ?ic_BadSteps ?sc_BadSteps⟩
      (case a_BadSteps => k_is); (case kc_BadSteps => k_is); (case ec_BadSteps => k_is); (case tc_BadSteps => k_is); (case ic_BadSteps => k_is); (case sc_BadSteps => first | rfl | k_is); (case xc_BadSteps => first | k_exc | k_is)
    have i_LINE_END : G.IntAt (PySem.Challenge.cw_glossrows_s01_answers_holds.heap_1 w.params) "LINE_END" (10) := by
      refine' G.IntAt.by ?m_LINE_END
      (case m_LINE_END => k_is)
    have i_BLANK : G.IntAt (PySem.Challenge.cw_glossrows_s01_answers_holds.heap_1 w.params) "BLANK" (32) := by
      refine' G.IntAt.by ?m_BLANK
      (case m_BLANK => k_is)
    have i_QUOTE : G.IntAt (PySem.Challenge.cw_glossrows_s01_answers_holds.heap_1 w.params) "QUOTE" (39) := by
      refine' G.IntAt.by ?m_QUOTE
      (case m_QUOTE => k_is)
    have i_DOT : G.IntAt (PySem.Challenge.cw_glossrows_s01_answers_holds.heap_1 w.params) "DOT" (46) := by
      refine' G.IntAt.by ?m_DOT
      (case m_DOT => k_is)
    have i_BAD_LINES : G.IntAt (PySem.Challenge.cw_glossrows_s01_answers_holds.heap_1 w.params) "BAD_LINES" (1) := by
      refine' G.IntAt.by ?m_BAD_LINES
      (case m_BAD_LINES => k_is)
    have i_BAD_PIECE_ROWS : G.IntAt (PySem.Challenge.cw_glossrows_s01_answers_holds.heap_1 w.params) "BAD_PIECE_ROWS" (2) := by
      refine' G.IntAt.by ?m_BAD_PIECE_ROWS
      (case m_BAD_PIECE_ROWS => k_is)
    have i_BAD_GLOSS_ROWS : G.IntAt (PySem.Challenge.cw_glossrows_s01_answers_holds.heap_1 w.params) "BAD_GLOSS_ROWS" (3) := by
      refine' G.IntAt.by ?m_BAD_GLOSS_ROWS
      (case m_BAD_GLOSS_ROWS => k_is)
    have i_EMPTY_PART : G.IntAt (PySem.Challenge.cw_glossrows_s01_answers_holds.heap_1 w.params) "EMPTY_PART" (4) := by
      refine' G.IntAt.by ?m_EMPTY_PART
      (case m_EMPTY_PART => k_is)
    have i_OTHER_SEAMS : G.IntAt (PySem.Challenge.cw_glossrows_s01_answers_holds.heap_1 w.params) "OTHER_SEAMS" (5) := by
      refine' G.IntAt.by ?m_OTHER_SEAMS
      (case m_OTHER_SEAMS => k_is)
    have i_OTHER_WORD : G.IntAt (PySem.Challenge.cw_glossrows_s01_answers_holds.heap_1 w.params) "OTHER_WORD" (6) := by
      refine' G.IntAt.by ?m_OTHER_WORD
      (case m_OTHER_WORD => k_is)
    have i_TOO_MANY : G.IntAt (PySem.Challenge.cw_glossrows_s01_answers_holds.heap_1 w.params) "TOO_MANY" (7) := by
      refine' G.IntAt.by ?m_TOO_MANY
      (case m_TOO_MANY => k_is)
    have i_MOST_ITEMS : G.IntAt (PySem.Challenge.cw_glossrows_s01_answers_holds.heap_1 w.params) "MOST_ITEMS" (60) := by
      refine' G.IntAt.by ?m_MOST_ITEMS
      (case m_MOST_ITEMS => k_is)
    have i_MOST_WORDS : G.IntAt (PySem.Challenge.cw_glossrows_s01_answers_holds.heap_1 w.params) "MOST_WORDS" (30) := by
      refine' G.IntAt.by ?m_MOST_WORDS
      (case m_MOST_WORDS => k_is)
    have i_MOST_PIECES : G.IntAt (PySem.Challenge.cw_glossrows_s01_answers_holds.heap_1 w.params) "MOST_PIECES" (8) := by
      refine' G.IntAt.by ?m_MOST_PIECES
      (case m_MOST_PIECES => k_is)
    have i_NO_SEAM : G.IntAt (PySem.Challenge.cw_glossrows_s01_answers_holds.heap_1 w.params) "NO_SEAM" (0) := by
      refine' G.IntAt.by ?m_NO_SEAM
      (case m_NO_SEAM => k_is)
    have i_SEAM : G.IntAt (PySem.Challenge.cw_glossrows_s01_answers_holds.heap_1 w.params) "SEAM" (0) := by
      refine' G.IntAt.by ?m_SEAM
      (case m_SEAM => k_is)
    have i_FORM : G.IntAt (PySem.Challenge.cw_glossrows_s01_answers_holds.heap_1 w.params) "FORM" (1) := by
      refine' G.IntAt.by ?m_FORM
      (case m_FORM => k_is)
    have i_GLOSS : G.IntAt (PySem.Challenge.cw_glossrows_s01_answers_holds.heap_1 w.params) "GLOSS" (2) := by
      refine' G.IntAt.by ?m_GLOSS
      (case m_GLOSS => k_is)
    have i_KIND_OF_NONE : G.IntAt (PySem.Challenge.cw_glossrows_s01_answers_holds.heap_1 w.params) "KIND_OF_NONE" (6) := by
      refine' G.IntAt.by ?m_KIND_OF_NONE
      (case m_KIND_OF_NONE => k_is)
    have i_MOST_STEPS : G.IntAt (PySem.Challenge.cw_glossrows_s01_answers_holds.heap_1 w.params) "MOST_STEPS" (4) := by
      refine' G.IntAt.by ?m_MOST_STEPS
      (case m_MOST_STEPS => k_is)
    have i_MOST_GAP : G.IntAt (PySem.Challenge.cw_glossrows_s01_answers_holds.heap_1 w.params) "MOST_GAP" (30) := by
      refine' G.IntAt.by ?m_MOST_GAP
      (case m_MOST_GAP => k_is)
    have i_MOST_WANTED : G.IntAt (PySem.Challenge.cw_glossrows_s01_answers_holds.heap_1 w.params) "MOST_WANTED" (4) := by
      refine' G.IntAt.by ?m_MOST_WANTED
      (case m_MOST_WANTED => k_is)
    have i_MOST_KIND : G.IntAt (PySem.Challenge.cw_glossrows_s01_answers_holds.heap_1 w.params) "MOST_KIND" (6) := by
      refine' G.IntAt.by ?m_MOST_KIND
      (case m_MOST_KIND => k_is)
    have i_OUT_OF_BOUNDS : G.IntAt (PySem.Challenge.cw_glossrows_s01_answers_holds.heap_1 w.params) "OUT_OF_BOUNDS" (-1) := by
      refine' G.IntAt.by ?m_OUT_OF_BOUNDS
      (case m_OUT_OF_BOUNDS => k_is)
    have i_NOT_THERE : G.IntAt (PySem.Challenge.cw_glossrows_s01_answers_holds.heap_1 w.params) "NOT_THERE" (-2) := by
      refine' G.IntAt.by ?m_NOT_THERE
      (case m_NOT_THERE => k_is)
    have i_FAULTY : G.IntAt (PySem.Challenge.cw_glossrows_s01_answers_holds.heap_1 w.params) "FAULTY" (-3) := by
      refine' G.IntAt.by ?m_FAULTY
      (case m_FAULTY => k_is)
    have i_MOST_BYTES : G.IntAt (PySem.Challenge.cw_glossrows_s01_answers_holds.heap_1 w.params) "MOST_BYTES" (6000) := by
      refine' G.IntAt.by ?m_MOST_BYTES
      (case m_MOST_BYTES => k_is)
    have i_MOST_ROWS : G.IntAt (PySem.Challenge.cw_glossrows_s01_answers_holds.heap_1 w.params) "MOST_ROWS" (20) := by
      refine' G.IntAt.by ?m_MOST_ROWS
      (case m_MOST_ROWS => k_is)
    have i_MOST_WORD_BYTES : G.IntAt (PySem.Challenge.cw_glossrows_s01_answers_holds.heap_1 w.params) "MOST_WORD_BYTES" (40) := by
      refine' G.IntAt.by ?m_MOST_WORD_BYTES
      (case m_MOST_WORD_BYTES => k_is)
    have u_len : PySem.W.nsIn (PySem.Challenge.cw_glossrows_s01_answers_holds.heap_1 w.params) mainGlobals "len" = some none := by
      k_is
    have u_enumerate : PySem.W.nsIn (PySem.Challenge.cw_glossrows_s01_answers_holds.heap_1 w.params) mainGlobals "enumerate" = some none := by
      k_is
    have u_zip : PySem.W.nsIn (PySem.Challenge.cw_glossrows_s01_answers_holds.heap_1 w.params) mainGlobals "zip" = some none := by
      k_is
    have u_max : PySem.W.nsIn (PySem.Challenge.cw_glossrows_s01_answers_holds.heap_1 w.params) mainGlobals "max" = some none := by
      k_is
    have u_range : PySem.W.nsIn (PySem.Challenge.cw_glossrows_s01_answers_holds.heap_1 w.params) mainGlobals "range" = some none := by
      k_is
    have u_list : PySem.W.nsIn (PySem.Challenge.cw_glossrows_s01_answers_holds.heap_1 w.params) mainGlobals "list" = some none := by
      k_is
    have u_tuple : PySem.W.nsIn (PySem.Challenge.cw_glossrows_s01_answers_holds.heap_1 w.params) mainGlobals "tuple" = some none := by
      k_is
    have u_any : PySem.W.nsIn (PySem.Challenge.cw_glossrows_s01_answers_holds.heap_1 w.params) mainGlobals "any" = some none := by
      k_is
    have u_all : PySem.W.nsIn (PySem.Challenge.cw_glossrows_s01_answers_holds.heap_1 w.params) mainGlobals "all" = some none := by
      k_is
    have u_sorted : PySem.W.nsIn (PySem.Challenge.cw_glossrows_s01_answers_holds.heap_1 w.params) mainGlobals "sorted" = some none := by
      k_is
    have u_reversed : PySem.W.nsIn (PySem.Challenge.cw_glossrows_s01_answers_holds.heap_1 w.params) mainGlobals "reversed" = some none := by
      k_is
    have u_min : PySem.W.nsIn (PySem.Challenge.cw_glossrows_s01_answers_holds.heap_1 w.params) mainGlobals "min" = some none := by
      k_is
    obtain ⟨a_CALLS, f_begins, f_read, f_said, f_item, f_known, f_piece, f_glosses, f_forms, f_unlike, f_apart, f_find, t_CALLS, d_begins, d_read, d_said, d_item, d_known, d_piece, d_glosses, d_forms, d_unlike, d_apart, d_find⟩ : ∃ a f_begins f_read f_said f_item f_known f_piece f_glosses f_forms f_unlike f_apart f_find, G.TupAt (PySem.Challenge.cw_glossrows_s01_answers_holds.heap_1 w.params) "CALLS" a [.ref f_begins, .ref f_read, .ref f_said, .ref f_item, .ref f_known, .ref f_piece, .ref f_glosses, .ref f_forms, .ref f_unlike, .ref f_apart, .ref f_find] ∧ G.DefAt (PySem.Challenge.cw_glossrows_s01_answers_holds.heap_1 w.params) "begins" "begins" G.s_begins f_begins ∧ G.DefAt (PySem.Challenge.cw_glossrows_s01_answers_holds.heap_1 w.params) "read" "read" G.s_read f_read ∧ G.DefAt (PySem.Challenge.cw_glossrows_s01_answers_holds.heap_1 w.params) "said" "said" G.s_said f_said ∧ G.DefAt (PySem.Challenge.cw_glossrows_s01_answers_holds.heap_1 w.params) "item" "item" G.s_item f_item ∧ G.DefAt (PySem.Challenge.cw_glossrows_s01_answers_holds.heap_1 w.params) "known" "known" G.s_known f_known ∧ G.DefAt (PySem.Challenge.cw_glossrows_s01_answers_holds.heap_1 w.params) "piece" "piece" G.s_piece f_piece ∧ G.DefAt (PySem.Challenge.cw_glossrows_s01_answers_holds.heap_1 w.params) "glosses" "glosses" G.s_glosses f_glosses ∧ G.DefAt (PySem.Challenge.cw_glossrows_s01_answers_holds.heap_1 w.params) "forms" "forms" G.s_forms f_forms ∧ G.DefAt (PySem.Challenge.cw_glossrows_s01_answers_holds.heap_1 w.params) "unlike" "unlike" G.s_unlike f_unlike ∧ G.DefAt (PySem.Challenge.cw_glossrows_s01_answers_holds.heap_1 w.params) "apart" "apart" G.s_apart f_apart ∧ G.DefAt (PySem.Challenge.cw_glossrows_s01_answers_holds.heap_1 w.params) "find" "find" G.s_find f_find := by
      refine' ⟨_, _, _, _, _, _, _, _, _, _, _, _, G.TupAt.by ?ta ?tl, G.DefAt.by ?a0 ?l0 ?c0 ?k0, G.DefAt.by ?a1 ?l1 ?c1 ?k1, G.DefAt.by ?a2 ?l2 ?c2 ?k2, G.DefAt.by ?a3 ?l3 ?c3 ?k3, G.DefAt.by ?a4 ?l4 ?c4 ?k4, G.DefAt.by ?a5 ?l5 ?c5 ?k5, G.DefAt.by ?a6 ?l6 ?c6 ?k6, G.DefAt.by ?a7 ?l7 ?c7 ?k7, G.DefAt.by ?a8 ?l8 ?c8 ?k8, G.DefAt.by ?a9 ?l9 ?c9 ?k9, G.DefAt.by ?a10 ?l10 ?c10 ?k10⟩
      (case ta => k_is); (case tl => k_is)
      (case a0 => k_is); (case l0 => k_is); (case c0 => k_is); (case k0 => k_is)
      (case a1 => k_is); (case l1 => k_is); (case c1 => k_is); (case k1 => k_is)
      (case a2 => k_is); (case l2 => k_is); (case c2 => k_is); (case k2 => k_is)
      (case a3 => k_is); (case l3 => k_is); (case c3 => k_is); (case k3 => k_is)
      (case a4 => k_is); (case l4 => k_is); (case c4 => k_is); (case k4 => k_is)
      (case a5 => k_is); (case l5 => k_is); (case c5 => k_is); (case k5 => k_is)
      (case a6 => k_is); (case l6 => k_is); (case c6 => k_is); (case k6 => k_is)
      (case a7 => k_is); (case l7 => k_is); (case c7 => k_is); (case k7 => k_is)
      (case a8 => k_is); (case l8 => k_is); (case c8 => k_is); (case k8 => k_is)
      (case a9 => k_is); (case l9 => k_is); (case c9 => k_is); (case k9 => k_is)
      (case a10 => k_is); (case l10 => k_is); (case c10 => k_is); (case k10 => k_is)
    obtain ⟨a_SEAMS, t_SEAMS⟩ : ∃ a, G.Tup3 (PySem.Challenge.cw_glossrows_s01_answers_holds.heap_1 w.params) "SEAMS" a 45 61 126 := by
      refine' ⟨_, G.Tup3.by ?a_S ?l_S⟩
      (case a_S => k_is); (case l_S => k_is)
    exact G.all_ok KX NG hmg (d_cut_at := d_cut_at) (d_lines_of := d_lines_of) (d_rows_of := d_rows_of) (d_parts_of := d_parts_of) (d_seams_of := d_seams_of) (d_without_seams := d_without_seams) (d_dotted_parts := d_dotted_parts) (d_said_text := d_said_text) (d_said_item := d_said_item) (d_said_line := d_said_line) (d_entries_of := d_entries_of) (d_free_line := d_free_line) (d_check_line_between := d_check_line_between) (d_words_of := d_words_of) (d_word_of := d_word_of) (d_pieces_of := d_pieces_of) (d_traits_of_words := d_traits_of_words) (d_traits_of := d_traits_of) (d_has_trait := d_has_trait) (d_times_of := d_times_of) (d_numbers_by := d_numbers_by) (d_unlike_forms := d_unlike_forms) (d_has_two_glosses := d_has_two_glosses) (d_pieces_between := d_pieces_between) (d_ways_from := d_ways_from) (d_amount_of_rows := d_amount_of_rows) (d_first_rows := d_first_rows) (d_grown := d_grown) (d_choices_at := d_choices_at) (d_steps_of := d_steps_of) (d_step_of := d_step_of) (d_places_of := d_places_of) (d_ends_of := d_ends_of) (d_fits := d_fits) (d_begins := d_begins) (d_read := d_read) (d_said := d_said) (d_item := d_item) (d_known := d_known) (d_piece := d_piece) (d_glosses := d_glosses) (d_forms := d_forms) (d_unlike := d_unlike) (d_apart := d_apart) (d_find := d_find) (d_counted := d_counted) (d_joined := d_joined) (d_answers := d_answers) (d_Row := d_Row) (d_Word := d_Word) (d_Item := d_Item) (d_Text := d_Text) (d_Parting := d_Parting) (d_Step := d_Step) (d_Source := d_Source) (d_Desk := d_Desk) (d_Fault := d_Fault) (d_BadSteps := d_BadSteps) (d_take := d_take) (d_take_up_to := d_take_up_to) (d_take_counted := d_take_counted) (n_Row_place := n_Row_place) (n_Row_signs := n_Row_signs) (n_Word_rows := n_Word_rows) (n_Word_pieces := n_Word_pieces) (n_Item_words := n_Item_words) (n_Item_free := n_Item_free) (n_Text_entries := n_Text_entries) (n_Text_times := n_Text_times) (n_Text_known_pieces := n_Text_known_pieces) (n_Text_by_form := n_Text_by_form) (n_Text_by_gloss := n_Text_by_gloss) (n_Text_firsts := n_Text_firsts) (n_Text_others := n_Text_others) (n_Text_traits := n_Text_traits) (n_Parting_text := n_Parting_text) (n_Parting_word := n_Parting_word) (n_Parting_ways := n_Parting_ways) (n_Step_gap := n_Step_gap) (n_Step_wanted := n_Step_wanted) (n_Source_numbers := n_Source_numbers) (n_Source_at := n_Source_at) (n_Desk_text := n_Desk_text) (n_Fault_kind := n_Fault_kind) (n_Fault_place := n_Fault_place) (i_LINE_END := i_LINE_END) (i_BLANK := i_BLANK) (i_QUOTE := i_QUOTE) (i_DOT := i_DOT) (i_BAD_LINES := i_BAD_LINES) (i_BAD_PIECE_ROWS := i_BAD_PIECE_ROWS) (i_BAD_GLOSS_ROWS := i_BAD_GLOSS_ROWS) (i_EMPTY_PART := i_EMPTY_PART) (i_OTHER_SEAMS := i_OTHER_SEAMS) (i_OTHER_WORD := i_OTHER_WORD) (i_TOO_MANY := i_TOO_MANY) (i_MOST_ITEMS := i_MOST_ITEMS) (i_MOST_WORDS := i_MOST_WORDS) (i_MOST_PIECES := i_MOST_PIECES) (i_NO_SEAM := i_NO_SEAM) (i_SEAM := i_SEAM) (i_FORM := i_FORM) (i_GLOSS := i_GLOSS) (i_KIND_OF_NONE := i_KIND_OF_NONE) (i_MOST_STEPS := i_MOST_STEPS) (i_MOST_GAP := i_MOST_GAP) (i_MOST_WANTED := i_MOST_WANTED) (i_MOST_KIND := i_MOST_KIND) (i_OUT_OF_BOUNDS := i_OUT_OF_BOUNDS) (i_NOT_THERE := i_NOT_THERE) (i_FAULTY := i_FAULTY) (i_MOST_BYTES := i_MOST_BYTES) (i_MOST_ROWS := i_MOST_ROWS) (i_MOST_WORD_BYTES := i_MOST_WORD_BYTES) (u_len := u_len) (u_enumerate := u_enumerate) (u_zip := u_zip) (u_max := u_max) (u_range := u_range) (u_list := u_list) (u_tuple := u_tuple) (u_any := u_any) (u_all := u_all) (u_sorted := u_sorted) (u_reversed := u_reversed) (u_min := u_min) (t_SEAMS := t_SEAMS) (t_CALLS := t_CALLS)
  case S => exact G.asked_ok


