import PyProof.Rows.All
import Wide.All
import OpenK.AllK
import Wide.FinOn
import HandS.ForMost
import HandS.AnyAll
import HandS.FStr
import HandS.Walk
import HandS.EndTab
import HandS.EndOwn
import HandS.Codes
import HandS.Strs
import HandS.IsInst
import HandS.Style
import HandS.Replace
import KE.KExcSuper
import KE.KSuper
import HandS.ExcInit
import KE.GoesEnumKw
import KE.GoesMore
import HandS.ExcIs
import HandS.ExcField
import HandS.ExcOwn
import HandS.TryOnly
import HandS.Star
import HandS.ListItems
import HandS.ForDict
import HandS.Deep
import HandS.DeepEq
import KE.KExcIs
import HandS.Text
import HandS.SetKeys
import HandS.SetBool
import PyProof.Rows.SortShellAny
import HandS.SetFor
import HandS.More
import HandS.WrittenGet
import HandS.Conv
import PyProof.ListStr
import HandS.WordsExc
import HandS.Steps
import HandS.Small
import HandS.Flow
import PySem.Challenge.RW_layerwharf_k20_wire
set_option Elab.async false
set_option linter.all false
set_option maxRecDepth 100000
set_option maxHeartbeats 4000000
namespace LW
open PySem PySem.Spec PyProof.Rows L2 GxR
/-- a test of one sign that may read names of the module -/
def EltG (P : Program) (w : World) (mg : Str → Option Value) (sc : Scope) (x : Str) (e : Expr) (pb : Nat → Bool) : Prop :=
  ∀ (env : Env) (A : Around) (E : Value → Shared → Prop) (c : Nat) (t : Tok) (s : Shared) (m : Str → Option Value),
    env.scope = sc → env.globals = mainGlobals → s.heap.Ns mainGlobals mg → s.heap.Ns env.locals m → m x = some (.str ⟨#[c]⟩ t) →
    wpAny (model P w) A (eval e env) (fun y s' => y = .bool (pb c) ∧ Keeps s s') E s
theorem elt_inG {P : Program} {w : World} {mg : Str → Option Value} {sc : Scope} {x g z : Str} {tz : Tok} {p1 p2 p3 : Pos}
    (hk : sc.kind = .function) (hl : sc.names.lookup x = some .local) (hg : sc.names.lookup g = some .globalImplicit) (hm : mg g = some (.str z tz))
    (d1 : (x == ("__debug__" : Str)) = false := by decide) (d2 : (g == ("__debug__" : Str)) = false := by decide) :
    EltG P w mg sc x (.Compare (.Name x p1) [.In] [.Name g p2] p3) (fun c => decide (c ∈ z.cps.toList)) := by
  intro env A E c t s m e1 e2 n1 n2 hx
  subst e1
  refine wpAny_Compare1 (wpAny_Name (wpAny_loadName_local hk hl n2 hx ?_) d1)
  refine Calls.Name_function_global hk hg (Calls.loadGlobal_global (by rw [e2]; exact n1) hm ?_) d2
  refine PyProof.Rows.in_str ⟨?_, keeps_refl s⟩
  rw [PySem.StrLaws.found_one z c]
theorem ns_at {h h' : Heap} {a : Addr} {m : Str → Option Value} (n : h.Ns a m) (k : ∀ o, h.get? a = some o → h'.get? a = some o) : h'.Ns a m := by
  obtain ⟨o, es, ep, e, r⟩ := n
  exact ⟨o, es, ep, k o e, r⟩
end LW
namespace LW
open PySem PySem.Spec PyProof.Rows L2 GxR
section
variable {X : Cx} {pins : List (Addr × Obj)} {σ : L2.St} {H : Hp} {s : Shared}
/-- (test for x in text), the test reading the module's names: made, and ready to be walked -/
theorem gen_textG {c T : Addr} {e it : Expr} {x : Str} {px gp : Pos} {sc : Scope} {pb : Nat → Bool} {te : TE} {k : Nat} {Q' : Value → Shared → Prop} {R : Str → Hp → Prop}
    (hr : Room k X.A) (B : TabB X.base X.mg c T) (hc : X.env.code = .ref c) (S : GenS X.env sc x) (hi : PE X it te)
    (he : EltG X.prog X.w X.mg sc x e pb) (hs : ∀ v, genFold it X.env v = pure v) (I : Inv X pins σ H s)
    (h : te σ H fun v H1 => ∃ a : Str, v = .str a ∧ TabG H1 T ∧ R a H1)
    (q : ∀ a H1 g s5, R a H1 → Ready X pins σ H1 T a pb g s5 → Q' (.ref g) s5) :
    wpAny (model X.prog X.w) X.A (eval (.GeneratorExp e [⟨.Name x px, it, [], 0⟩] sc gp) X.env) Q' X.xe s := by
  have room : X.A.depth < recursionLimit := hr.depth
  refine wpAny_GeneratorExp_walksQ hr.hd S.co (closure_ok S.free) S.cell S.dot S.loc S.kind room ?_ hs
  refine thn (hi.run pins s σ H _ I h) ?_
  rintro xv s1 ⟨v, H1, I1, r1, a, ev, ⟨ps, hT, tr⟩, ra⟩
  subst ev
  obtain ⟨t, et⟩ := r1
  subst et
  refine wpAny_pyIter_str ?_
  intro o St W st0
  have oT : s1.heap.get? T = some { cls := .none, data := .fields ps } := I1.hok T _ hT
  have ltT := Heap.lt_size oT
  have oT2 : (s1.heap.push o).get? T = some { cls := .none, data := .fields ps } := Heap.get?_push_of_some _ oT
  have lim : (s1.heap.push o).NoLimit := I1.nolimit.push o
  have cd : PySem.W.CodeHd (s1.heap.push o) c T := B.code.keeps fun b u hb => Heap.get?_push_of_some _ (I1.bk b u hb)
  have psz : (s1.heap.push o).objs.size = s1.heap.objs.size + 1 := Heap.size_push ..
  have goG : ∃ og, s1.heap.get? mainGlobals = some og ∧ mainGlobals ≠ T := by
    obtain ⟨og, _, _, eg, _⟩ := I1.mod.glob
    exact ⟨og, I1.bk _ _ eg, B.gP⟩
  obtain ⟨og, gg, gT⟩ := goG
  have nsG : s1.heap.Ns mainGlobals X.mg := I1.mod.glob.keeps I1.bk
  -- what is left once the code of the generator is there
  have rest : ∀ (cv : Value) (h3 : Heap) (tk : Nat) (ps' more : Array Value), Heap.ExtBut T (s1.heap.push o) h3 → (s1.heap.push o).objs.size ≤ h3.objs.size →
      h3.get? T = some { cls := .none, data := .fields ps' } → ps' = ps ++ more → TriplesOk ps'.toList →
      wpAny (model X.prog X.w) X.A (builtinsFor X.env.globals X.env.builtins) (fun bi s4 =>
        ∃ Ia fp wr n0 Pf St0 pz F, Value.ref s1.heap.objs.size = .ref Ia ∧ (∀ A' : Around, A'.handled = none → Walks X.prog X.w A' Ia fp wr n0 Pf St0) ∧ St0 0 s4.heap ∧
          (∀ b ∈ fp, b < s4.heap.objs.size) ∧ s4.heap.NoLimit ∧ cStatics ∉ wr ∧
          (∀ hf : Heap, (∀ b u, s4.heap.get? b = some u → hf.get? b = some u) →
            QuietGen X.prog X.w (genEnv sc (cloFrom X.env.cells sc.names []) s4.heap.objs.size cv bi X.env) x [] e (List.range s4.heap.objs.size) wr Pf pz F hf) ∧
          (∀ g h5 tk' gs, gs.bare = true → s4.heap.objs.size < g → h5.objs.size = g + 1 → (∀ b u, s4.heap.get? b = some u → h5.get? b = some u) →
            WalksS X.prog X.w X.A.in4 g (g :: s4.heap.objs.size :: List.range s4.heap.objs.size) (s4.heap.objs.size :: wr) (GenOnlyQ s4.gens.size) (passing pz n0 0).length
              (fun j y => ∃ i, (passing pz n0 0)[j]? = some i ∧ F i y) (GenAt X.prog X.w X.A.in4 g s4.gens.size s4.heap.objs.size (List.range s4.heap.objs.size) wr pz n0 F) →
            GenAt X.prog X.w X.A.in4 g s4.gens.size s4.heap.objs.size (List.range s4.heap.objs.size) wr pz n0 F 0 { s4 with gens := s4.gens.push gs, toks := tk', heap := h5 } →
            Q' (.ref g) { s4 with gens := s4.gens.push gs, toks := tk', heap := h5 })) X.xe { s1 with heap := h3, toks := tk } := by
    intro cv h3 tk ps' more ext hz hT3 emore tr3
    have old : ∀ b u, b ≠ T → s1.heap.get? b = some u → h3.get? b = some u := fun b u n eu => ext b u n (Heap.get?_push_of_some _ eu)
    obtain ⟨bm, ob, m1, m2, m3, m4, m5, m6, m7, m8⟩ := B.bm
    have csT : cStatics ≠ T := by
      intro ee
      obtain ⟨_, ⟨o', es, ep, ho, hd, _⟩, _⟩ := I1.nolimit
      rw [ee, oT] at ho
      cases ho
      cases hd
    have csl : cStatics < s1.heap.objs.size := by
      obtain ⟨_, hn, _⟩ := I1.nolimit
      exact hn.lt
    have g3 : h3.Ns mainGlobals X.mg := ns_at nsG fun u hu => old _ u gT hu
    refine wpAny_builtinsFor (m := X.mg) (by rw [I1.ok.glob]; exact g3) m1 m2 (old _ _ m4 (I1.bk _ _ m5)) m6 m7 m8 ?_
    refine ⟨s1.heap.objs.size, [s1.heap.objs.size], [s1.heap.objs.size], a.cps.size, SignAt a, St, fun _ => true, fun i y => ∃ cc, a.cps[i]? = some cc ∧ y = .bool (pb cc), rfl, W, ?_, ?_, lim.extBut ext csT, ?_, ?_, ?_⟩
    · refine (W X.A hr.hd).frame _ _ _ st0 fun b hb u eu => ext b u ?_ eu
      have eb : b = s1.heap.objs.size := by simpa using hb
      rw [eb]
      exact Nat.ne_of_gt ltT
    · intro b hb
      have eb : b = s1.heap.objs.size := by simpa using hb
      rw [eb]
      show s1.heap.objs.size < h3.objs.size
      omega
    · intro z
      have z' : cStatics = s1.heap.objs.size := by simpa using z
      exact Nat.ne_of_lt csl z'
    · intro hf kf
      refine ⟨?_, ?_⟩
      · intro A' E' i v s₂ m₂ _ _ _ _ _
        simp only [List.forIn_nil]
        exact wpAny_pure ⟨rfl, keeps_refl _⟩
      · intro A' E' i v s₂ m₂ hA pv _ hn hm hk
        obtain ⟨cc, u, hcc, ev⟩ := pv
        subst ev
        have gl : s₂.heap.Ns mainGlobals X.mg := ns_at g3 fun u hu => by
          refine hk mainGlobals (List.mem_range.mpr (Heap.lt_size hu)) ?_ u (kf _ _ hu)
          intro z
          have z' : mainGlobals = s1.heap.objs.size := by simpa using z
          have l := Heap.lt_size gg
          rw [z'] at l
          exact Nat.lt_irrefl _ l
        have res := he (genEnv sc (cloFrom X.env.cells sc.names []) h3.objs.size cv builtinsNs X.env) A' E' cc u s₂ m₂ rfl I1.ok.glob gl hn hm
        exact wpAny_mono res (fun y s3 r => ⟨⟨cc, hcc, r.1⟩, r.2⟩) fun _ _ z => z
    · intro g h5 tk5 gs hgb hag hsz5 hk5 W5 hat
      simp only [GxR.passing_true, List.length_range] at W5
      refine q a H1 g _ ra ⟨_, _, _, _, _, W5.in4_1, hat, ?_, ?_⟩
      · rintro j y sj Qj Ej ⟨i, hij, cc, hcc, ey⟩ hq
        subst ey
        obtain ⟨hj, ej⟩ := List.getElem?_eq_some_iff.mp hij
        rw [List.getElem_range] at ej
        subst ej
        have at_j : a.cps.toList[j]? = some cc := by rw [Array.getElem?_toList]; exact hcc
        rw [trF_some at_j] at hq
        exact wpAny_truthy_bool hq
      · intro s' hm
        have nw : ∀ b u, s1.heap.get? b = some u → b ∉ h3.objs.size :: [s1.heap.objs.size] := by
          intro b u eu hb
          have l := Heap.lt_size eu
          have l3 : (s1.heap.objs.size : Nat) ≤ h3.objs.size := by omega
          rcases List.mem_cons.mp hb with z | z
          · rw [z] at l
            exact absurd (Nat.lt_of_lt_of_le l l3) (Nat.lt_irrefl _)
          · have z' : b = s1.heap.objs.size := by simpa using z
            rw [z'] at l
            exact Nat.lt_irrefl _ l
        have J := inv_tab (more := more) (h' := s'.heap) (g' := s'.gens) (d' := s'.drawn) (t' := s'.toks) I1 hT
          (fun b u n eu => hm.heap b u (nw b u eu) (hk5 b u (old b u n eu)))
          (by rw [← emore]; exact hm.heap T _ (nw T _ oT) (hk5 T _ hT3)) (AllBare.movedS (I1.bare.push hgb) hm)
        rw [sh_eta s1 s' hm.os] at J
        exact ⟨_, ⟨⟨ps ++ more, upd_same, by rw [← emore]; exact tr3⟩, fun b n => upd_ne n⟩, J⟩
  refine ⟨lim, ?_⟩
  cases hf : codeAmong gp ps.toList with
  | some cv =>
    refine wpAny_genexprCode_hit hc (cd.code oT2 tr) hf ?_
    exact rest cv (s1.heap.push o) s1.toks ps #[] (Heap.ExtBut.refl _ _) (Nat.le_refl _) oT2 (by simp) tr
  | none =>
    refine wpAny_genexprCodeX hc (cd.code oT2 tr) (cd.tab oT2) hf ?_
    intro c' h' tk ext ge lt isC _ htab _
    obtain ⟨o1, vs, f1, tf, fl, tg, inF, tx, tt, op, _, _, _, _, _, _, _, _, _, tr3, _⟩ := isC
    exact rest _ h' tk _ _ ext (Nat.le_trans ge (Nat.le_of_lt lt)) htab.2 rfl tr3
/-- all(test for x in e), e a text -/
theorem pe_allG {c T : Addr} {e it : Expr} {x : Str} {px p pos gp : Pos} {sc : Scope} {pb : Nat → Bool} {te : TE} {k : Nat}
    (hr : Room k X.A) (hg : Gl X "all") (hm : X.mg "all" = none) (B : TabB X.base X.mg c T) (hc : X.env.code = .ref c) (S : GenS X.env sc x)
    (hi : PE X it te) (he : EltG X.prog X.w X.mg sc x e pb) (hs : ∀ v, genFold it X.env v = pure v := by intro _; rfl)
    (ha : starEach [.GeneratorExp e [⟨.Name x px, it, [], 0⟩] sc gp] X.env = (false, eval (.GeneratorExp e [⟨.Name x px, it, [], 0⟩] sc gp) X.env) :: starEach [] X.env := by rfl) :
    PE X (.Call (.Name "all" p) [.GeneratorExp e [⟨.Name x px, it, [], 0⟩] sc gp] [] pos) (tAllS T pb te) := by
  constructor
  intro pins s σ H Q I h
  refine wpAny_Call_Name_kw (ld_blt I hg hm (u := .builtin "all") (by decide +kernel) ?_)
  refine PyProof.Rows.callWith_builtin1 ?_ ha (by rfl)
  rw [ha]
  show wpAny _ _ (spliced ((false, eval (.GeneratorExp e [⟨.Name x px, it, [], 0⟩] sc gp) X.env) :: backTo pos (starEach [] X.env))) _ _ s
  refine Calls.spliced_cons (gen_textG (R := fun a H1 => ∀ H2, Tabbed T H1 H2 → Q (.bl (a.cps.toList.all pb)) H2) hr B hc S hi he hs I h ?_)
  rintro a H1 g s5 hR ⟨fp, wr, G, F, St, W, hst, htr, hI⟩
  refine Calls.spliced_nil (call_all_walkS (W.self 0 _ _ _ hst ⟨g, fp, wr, G, _, F, St, _, rfl, W, hst, htr, ?_⟩))
  intro s' hmv
  obtain ⟨H2, hT, J⟩ := hI s' hmv
  refine ⟨.bl _, H2, J, rfl, ?_⟩
  rw [all_signs a pb]
  exact hR H2 hT
end
end LW
namespace LW
open PySem
/-! ### sixteen hexadecimal digits -/
def dig (d : Nat) : Nat := if d < 10 then 48 + d else 87 + d
/-- k digits of n -/
def hx : Nat → Nat → List Nat
  | 0, _ => []
  | k + 1, n => hx k (n / 16) ++ [dig (n % 16)]
theorem hx_len : ∀ k n, (hx k n).length = k
  | 0, _ => rfl
  | k + 1, n => by simp [hx, hx_len k]
theorem hx_zero : ∀ k, hx k 0 = List.replicate k 48
  | 0 => rfl
  | k + 1 => by
    show hx k (0 / 16) ++ [dig (0 % 16)] = _
    rw [Nat.zero_div, hx_zero k, List.replicate_succ']
    rfl
theorem core_acc : ∀ (f n : Nat) (ds : List Char), Nat.toDigitsCore 16 f n ds = Nat.toDigitsCore 16 f n [] ++ ds
  | 0, n, ds => rfl
  | f + 1, n, ds => by
    unfold Nat.toDigitsCore
    by_cases h : n / 16 = 0
    · simp [h]
    · simp only [h, if_false]
      rw [core_acc f (n / 16) (Nat.digitChar (n % 16) :: ds), core_acc f (n / 16) [Nat.digitChar (n % 16)]]
      simp
theorem dig_char {d : Nat} (h : d < 16) : (Nat.digitChar d).toNat = dig d := by
  have : ∀ d : Fin 16, (Nat.digitChar d.val).toNat = dig d.val := by decide +kernel
  exact this ⟨d, h⟩
theorem core_hx : ∀ (k f n : Nat), 1 ≤ k → n < 16 ^ k → n < f →
    ((Nat.toDigitsCore 16 f n []).map Char.toNat).length ≤ k ∧
    List.replicate (k - ((Nat.toDigitsCore 16 f n []).map Char.toNat).length) 48 ++ (Nat.toDigitsCore 16 f n []).map Char.toNat = hx k n
  | 0, _, _, h, _, _ => by omega
  | k + 1, 0, n, _, _, h => by omega
  | k + 1, f + 1, n, _, h, hf => by
    have hm : n % 16 < 16 := Nat.mod_lt _ (by decide)
    by_cases h0 : n / 16 = 0
    · have e : Nat.toDigitsCore 16 (f + 1) n [] = [Nat.digitChar (n % 16)] := by
        unfold Nat.toDigitsCore
        simp [h0]
      rw [e]
      refine ⟨by simp, ?_⟩
      show List.replicate (k + 1 - 1) 48 ++ [(Nat.digitChar (n % 16)).toNat] = hx k (n / 16) ++ [dig (n % 16)]
      rw [h0, hx_zero, dig_char hm, Nat.add_sub_cancel]
    · have e : Nat.toDigitsCore 16 (f + 1) n [] = Nat.toDigitsCore 16 f (n / 16) [] ++ [Nat.digitChar (n % 16)] := by
        rw [← core_acc]
        conv => lhs; unfold Nat.toDigitsCore
        simp [h0]
      have h16 : n / 16 < 16 ^ k := by
        rw [Nat.div_lt_iff_lt_mul (by decide)]
        rw [Nat.pow_succ] at h
        exact h
      have k1 : 1 ≤ k := by
        cases k with
        | zero => rw [Nat.pow_zero] at h16; omega
        | succ k => omega
      have ih := core_hx k f (n / 16) k1 h16 (by omega)
      rw [e, List.map_append]
      refine ⟨by have i1 := ih.1; simp only [List.length_append, List.length_map, List.length_cons, List.length_nil] at i1 ⊢; omega, ?_⟩
      show List.replicate (k + 1 - _) 48 ++ (_ ++ [(Nat.digitChar (n % 16)).toNat]) = hx k (n / 16) ++ [dig (n % 16)]
      rw [← ih.2, dig_char hm, ← List.append_assoc]
      have el : ((Nat.toDigitsCore 16 f (n / 16) []).map Char.toNat ++ ([Nat.digitChar (n % 16)].map Char.toNat)).length = ((Nat.toDigitsCore 16 f (n / 16) []).map Char.toNat).length + 1 := by simp
      rw [el, show k + 1 - (((Nat.toDigitsCore 16 f (n / 16) []).map Char.toNat).length + 1) = k - ((Nat.toDigitsCore 16 f (n / 16) []).map Char.toNat).length by omega]
theorem toDigits_hx {n : Nat} (h : n < 16 ^ 16) : ((Nat.toDigits 16 n).map Char.toNat).length ≤ 16 ∧
    List.replicate (16 - ((Nat.toDigits 16 n).map Char.toNat).length) 48 ++ (Nat.toDigits 16 n).map Char.toNat = hx 16 n := core_hx 16 (n + 1) n (by decide) h (by omega)
theorem toDigits_ne (n : Nat) : ((Nat.toDigits 16 n).map Char.toNat).isEmpty = false := by
  unfold Nat.toDigits
  by_cases h0 : n / 16 = 0
  · unfold Nat.toDigitsCore
    simp [h0]
  · unfold Nat.toDigitsCore
    simp only [h0, if_false]
    rw [core_acc]
    simp
/-- the digits as they are counted -/
def hexDigits : List Nat := [48, 49, 50, 51, 52, 53, 54, 55, 56, 57, 97, 98, 99, 100, 101, 102]
theorem dig_mem {d : Nat} (h : d < 16) : dig d ∈ hexDigits := by
  have : ∀ d : Fin 16, dig d.val ∈ hexDigits := by decide +kernel
  exact this ⟨d, h⟩
theorem hx_mem : ∀ k n, ∀ c ∈ hx k n, c ∈ hexDigits
  | 0, _, c, h => by simp [hx] at h
  | k + 1, n, c, h => by
    rcases List.mem_append.mp h with h | h
    · exact hx_mem k _ c h
    · rw [List.mem_singleton.mp h]
      exact dig_mem (Nat.mod_lt _ (by decide))
/-- the value of a digit: its first place -/
def val (c : Nat) : Nat := hexDigits.idxOf c
def readHex (l : List Nat) : Nat := l.foldl (fun n c => n * 16 + val c) 0
theorem val_dig {d : Nat} (h : d < 16) : val (dig d) = d := by
  have : ∀ d : Fin 16, val (dig d.val) = d.val := by decide +kernel
  exact this ⟨d, h⟩
theorem read_hx : ∀ k n, n < 16 ^ k → readHex (hx k n) = n
  | 0, n, h => by
    rw [Nat.pow_zero] at h
    have : n = 0 := by omega
    subst this
    rfl
  | k + 1, n, h => by
    have h16 : n / 16 < 16 ^ k := by
      rw [Nat.div_lt_iff_lt_mul (by decide)]
      rw [Nat.pow_succ] at h
      exact h
    have ih := read_hx k _ h16
    unfold readHex at ih ⊢
    show (hx k (n / 16) ++ [dig (n % 16)]).foldl _ 0 = n
    rw [List.foldl_append, ih]
    show n / 16 * 16 + val (dig (n % 16)) = n
    rw [val_dig (Nat.mod_lt _ (by decide))]
    omega
/-- the address's text of a number -/
def hexS (n : Nat) : Str := ⟨(hx 16 n).toArray⟩
end LW
namespace LW
open PySem PySem.Spec PyProof.Rows L2
/-- the field of a number in sixteen hexadecimal digits -/
def fld (neg : Bool) (n : Nat) : Str :=
  let sg : List Nat := if neg then [45] else []
  let ds0 : List Nat := (Nat.toDigits 16 n).map fun c => c.toNat
  let other : Int := (sg.length : Int) + 0 + 0
  let room : Int := 16 - other
  let ds : List Nat := if ds0.isEmpty then [] else List.replicate (room.toNat - ds0.length) 48 ++ ds0
  let pad : Nat := (16 - other - (ds.length : Int)).toNat
  ⟨(List.replicate 0 48 ++ sg ++ [] ++ List.replicate pad 48 ++ ds ++ [] ++ List.replicate 0 48).toArray⟩
theorem iteNo {c : Prop} [Decidable c] {X Y : Prop} (hc : ¬ c) (h : Y) : if c then X else Y := by
  rw [if_neg hc]
  exact h
theorem iteYes {c : Prop} [Decidable c] {X Y : Prop} (hc : c) (h : X) : if c then X else Y := by
  rw [if_pos hc]
  exact h
theorem gives_hex (a : Int) (t u : Tok) : Gives (Builtin.«int.__format__» ⟨[.int a t, .str "016x" u], []⟩) (.str (fld (decide (a < 0)) a.natAbs)) := by
  intro prog w A R s hq
  unfold Builtin.«int.__format__»
  refine wpAny_bind (wpAny_of_eq (a := (_, _)) rfl ?_)
  refine wpAny_bind (wpAny_of_eq (a := a) rfl ?_)
  refine wpAny_bind (wpAny_typeNameOf (T := "str") (typeIs_str _ _ _) (by decide) fun _ => ?_)
  refine wpAny_bind (wpAny_of_eq (a := some _) rfl ?_)
  refine wpAny_ite (iteNo (by decide +kernel) ?_)
  refine wpAny_ite (iteNo (by decide +kernel) ?_)
  refine wpAny_bind (wpAny_typeNameOfCut_int ?_)
  have hp : Builtin.Float.parseFormatSpec (Str.ofString "016x").cps.toList "int" 62 = .ok ⟨48, 61, none, false, false, some 16, none, none, some 120⟩ := by rfl
  rw [hp]
  refine wpAny_ite (iteYes (by decide +kernel) ?_)
  exact Gives.of_eq (m := .str (fld (decide (a < 0)) a.natAbs)) rfl prog w A R s hq
end LW
namespace LW
open PySem PySem.Spec PyProof.Rows L2
theorem fld_hexS {n : Nat} (h : n < 16 ^ 16) : fld false n = hexS n := by
  have e := toDigits_hx h
  have l : (hx 16 n).length = 16 := hx_len 16 n
  unfold fld hexS
  simp only [toDigits_ne, Bool.false_eq_true, if_false, List.length_nil, List.replicate_zero, List.nil_append, List.append_nil]
  rw [show ((16 : Int) - (((0 : Nat) : Int) + 0 + 0)).toNat = 16 from rfl, show (fun c : Char => c.toNat) = Char.toNat from rfl, e.2, l]
  rfl
theorem gives_hexS {n : Nat} (h : n < 16 ^ 16) (t u : Tok) : Gives (Builtin.«int.__format__» ⟨[.int (n : Int) t, .str "016x" u], []⟩) (.str (hexS n)) := by
  have g := gives_hex (n : Int) t u
  rw [show decide ((n : Int) < 0) = false from decide_eq_false (by omega), Int.natAbs_natCast, fld_hexS h] at g
  exact g
theorem hexS_len (n : Nat) : (hexS n).length = 16 := by
  show (hx 16 n).toArray.size = 16
  rw [List.size_toArray, hx_len]
section
variable {X : Cx}
/-- {n:016x} -/
def tHex (te : TE) : TE := fun σ H Q => te σ H fun x H1 => ∃ n : Nat, x = .int (n : Int) ∧ n < 16 ^ 16 ∧ Q (.str (hexS n)) H1
theorem pe_hex {e : Expr} {te : TE} {j : Nat} {p1 p2 pos : Pos} (he : PE X e te) : PE X (.FormattedValue e (-1) (some (.JoinedStr [.Constant (.str "016x") j p1] p2)) pos) (tHex te) := by
  constructor
  intro pins s σ H Q I h
  refine wpAny_FormattedValue_spec (thn (he.run pins s σ H _ I h) ?_)
  rintro v s1 ⟨x, H1, I1, r1, n, ex, hn, q⟩
  subst ex
  obtain ⟨t, et⟩ := r1
  subst et
  refine wpAny_JoinedStr_one (Calls.Constant_str ⟨_, _, rfl, ?_⟩)
  refine wpAny_formatField_spec (by decide +kernel) (fun s' => typeIs_int s' (n : Int) t) F.slot_int_format F.entry_int_format F.args_int_format_2 (fun u => gives_hexS hn t u) ?_ (by decide +kernel)
    (by rw [hexS_len]; decide +kernel)
  exact ⟨.str (hexS n), H1, (I1.tok _).tok _, ⟨_, rfl⟩, q⟩
end
end LW
namespace LW
open PySem PySem.Spec PyProof.Rows L2
/-- as it was but at D -/
def But (D : Addr) (H H' : Hp) : Prop := ∀ b, b ≠ D → H' b = H b
theorem But.refl (D : Addr) (H : Hp) : But D H H := fun _ _ => rfl
theorem But.upd {D : Addr} {H : Hp} {o : HO} : But D H (upd H D o) := fun _ hb => upd_ne hb
theorem But.same {D : Addr} {H H' : Hp} (h : But D H H') (n : H D = none) : Same H H' := fun b o e => by
  rw [h b (ne_of_none e n)]
  exact e
theorem But.list {K : PySem.W.Frag} {D a : Addr} {H H' : Hp} {xs : List V} (h : But D H H') (n : H D = none) (s : SqL K H a xs) : SqL K H' a xs := (h.same n).seq s
theorem upd_eq {H H' : Hp} {D : Addr} {o : HO} (h : But D H H') (e : H' D = some o) : H' = upd H D o := by
  funext b
  by_cases hb : b = D
  · subst hb; rw [e, upd_same]
  · rw [h b hb, upd_ne hb]
section
variable {J : It} {n : Nat} {G : Hp → Prop} {Y : Nat → Hp → V → Hp → Prop}
/-- a comprehension whose parts make nothing -/
theorem lc_flt (w : Walk J n G Y) {j : Nat} {tt : TT} {te : TE} {vs : List Nat} {σ : L2.St} {H1 : Hp} {D : Addr} {Qd : Hp → Prop} (t : Nat → Bool) (f : Nat → V)
    (hn : n < 16000000) (hG : ∀ H, But D H1 H → G H) (hw : ∀ x, wipe ((wipe σ vs).set j (some x)) vs = wipe σ vs)
    (hs : ∀ i x H H', i < n → But D H1 H → Y i H x H' → H' = H ∧ (∀ Q : Bool → Hp → Prop, Q (t i) H → tt ((wipe σ vs).set j (some x)) H Q) ∧ (t i = true → ∀ Q : VK, Q (f i) H → te ((wipe σ vs).set j (some x)) H Q))
    (hd : Qd (upd H1 D (.lst (((List.range n).filter t).map f)))) :
    ∃ W : Nat → Nat → Hp → Prop, (∃ m, W 0 m (upd H1 D (.lst []))) ∧ ∀ i m H, W i m H →
      (J.stop i H ∧ Qd H) ∨ (J.go i H ∧ ∃ Nx : Hp → Prop, (∀ H', Nx H' → ∃ m', m' < m ∧ W (i + 1) m' H') ∧ ∀ x H', J.yld i H x H' → gName j x (wipe σ vs) H' fun σ2 H2 => wipe σ2 vs = wipe σ vs ∧ tt σ2 H2 fun b H3 =>
        if b = true then te σ2 H3 fun y H4 => ∃ acc, H4 D = some (.lst acc) ∧ acc.length < sizeLine ∧ Nx (upd H4 D (.lst (acc ++ [y]))) else Nx H3) := by
  refine lc_it w (fun i H => H = upd H1 D (.lst (((List.range i).filter t).map f))) rfl (fun i H _ e => hG H (by rw [e]; exact But.upd)) ?_ (fun H e => by rw [e]; exact hd)
  rintro i x H H' hi e hy
  have b1 : But D H1 H := by rw [e]; exact But.upd
  obtain ⟨e2, ht, he⟩ := hs i x H H' hi b1 hy
  subst e2
  have hD : H' D = some (.lst (((List.range i).filter t).map f)) := by rw [e, upd_same]
  refine ⟨hw x, ht _ ?_⟩
  rw [List.range_succ, List.filter_append, List.map_append]
  cases hti : t i with
  | true =>
    rw [if_pos rfl]
    refine he hti _ ⟨_, hD, ?_, ?_⟩
    · have l1 : (((List.range i).filter t).map f).length ≤ i := by
        rw [List.length_map]
        exact Nat.le_trans (List.length_filter_le _ _) (by rw [List.length_range]; exact Nat.le_refl _)
      exact Nat.lt_of_le_of_lt l1 (Nat.lt_trans hi (Nat.lt_trans hn (by decide)))
    · rw [e, upd_upd]
      simp [hti]
  | false =>
    rw [if_neg Bool.false_ne_true]
    simp [hti]
    exact e
theorem lc_map (w : Walk J n G Y) {j : Nat} {te : TE} {vs : List Nat} {σ : L2.St} {H1 : Hp} {D : Addr} {Qd : Hp → Prop} (f : Nat → V)
    (hn : n < 16000000) (hG : ∀ H, But D H1 H → G H) (hw : ∀ x, wipe ((wipe σ vs).set j (some x)) vs = wipe σ vs)
    (hs : ∀ i x H H', i < n → But D H1 H → Y i H x H' → H' = H ∧ ∀ Q : VK, Q (f i) H → te ((wipe σ vs).set j (some x)) H Q)
    (hd : Qd (upd H1 D (.lst ((List.range n).map f)))) :
    ∃ W : Nat → Nat → Hp → Prop, (∃ m, W 0 m (upd H1 D (.lst []))) ∧ ∀ i m H, W i m H →
      (J.stop i H ∧ Qd H) ∨ (J.go i H ∧ ∃ Nx : Hp → Prop, (∀ H', Nx H' → ∃ m', m' < m ∧ W (i + 1) m' H') ∧ ∀ x H', J.yld i H x H' → gName j x (wipe σ vs) H' fun σ2 H2 => wipe σ2 vs = wipe σ vs ∧ tYes σ2 H2 fun b H3 =>
        if b = true then te σ2 H3 fun y H4 => ∃ acc, H4 D = some (.lst acc) ∧ acc.length < sizeLine ∧ Nx (upd H4 D (.lst (acc ++ [y]))) else Nx H3) := by
  refine lc_flt w (tt := tYes) (fun _ => true) f hn hG hw (fun i x H H' hi hb hy => ?_) ?_
  · obtain ⟨e, k⟩ := hs i x H H' hi hb hy
    exact ⟨e, fun Q q => q, fun _ => k⟩
  · rw [List.filter_eq_self.mpr (fun _ _ => rfl)]
    exact hd
end
theorem range_map_get {α β : Type} (g : α → β) (d : α) (l : List α) : (List.range l.length).map (fun i => g (l.getD i d)) = l.map g := by
  apply List.ext_getElem
  · simp
  · intro i h1 h2
    simp at h1 h2 ⊢
    rw [List.getElem?_eq_getElem (by simpa using h1)]
    rfl
theorem cutV_map {α : Type} (g : α → V) (xs : List α) (lo hi : Option Int) : ∃ ys : List α, cutV (xs.map g) lo hi = ys.map g ∧ ys.length ≤ xs.length ∧ ∀ y ∈ ys, y ∈ xs := by
  refine ⟨(xs.drop (HT.sIx xs.length 0 lo)).take (HT.sIx xs.length xs.length hi - HT.sIx xs.length 0 lo), ?_, ?_, ?_⟩
  · unfold cutV
    rw [List.length_map, ← List.map_drop, ← List.map_take]
  · rw [List.length_take, List.length_drop]
    omega
  · intro y hy
    exact List.mem_of_mem_drop (List.mem_of_mem_take hy)
section
variable {X : Cx}
/-- repr(b) -/
theorem call_repr_bl : CallR X (.builtin "repr") (fun xs H Q => ∃ b : Bool, xs = [.bl b] ∧ Q (.str (if b then "True" else "False")) H) := by
  intro pins s σ H xs us Q I r h
  obtain ⟨b, rfl, q⟩ := h
  obtain ⟨u, rfl, r1⟩ := vals1 r
  cases (show u = Value.bool b from r1)
  exact PySem.P.repr_of_bool ⟨.str _, H, I.tok _, ⟨_, rfl⟩, q⟩
end
end LW
namespace LW
open PySem PySem.Spec PyProof.Rows L2
/-! ### super().__init__(..) in the __init__ of an own exception over ValueError -/
/-- what the written part says of the class and the code that stands there -/
structure SupAt (P : Program) (K : PySem.W.Frag) (C cc cda : Addr) : Prop where
  T : OexC K C
  cell : ∃ cl cld csl, K.lookup cc = some ⟨cl, cld, .cell (some (.ref C)), csl⟩
  code : ∃ ccl cdd ccs vs file tf, K.lookup cda = some ⟨ccl, cdd, .fields vs, ccs⟩ ∧ vs[2]? = some (.str file tf) ∧ ((P.main.file : Str) == file) = true
  top : (P.main.scope.names.lookup ("super" : Str)).isSome = false
  opq : PySem.W.nsIn K cStatics "thirdparty.any" = some none
  own : PySem.W.mroIn K C (.ref C) = some true
  sup : PySem.W.ks_superIn K C C "__init__" = some (some (.builtin "ValueError.__init__"))
  sub : PySem.W.subIn K (.ref C) (.type "ValueError") = some true
theorem boot_super : bootBuiltins "super" = some (.type "super") := by decide +kernel
section
variable {X : Cx} {pins : List (Addr × Obj)} {σ : L2.St} {H : Hp} {s : Shared}
theorem sup_init {a C cc cda f : Addr} {body rest : List Stmt} {e : Expr} {ta : TA} {p0 p1 p2 p3 pos : Pos} {ar : Arg} {of : Obj} {fd : FuncData} {Qf : Flow → Shared → Prop} {R : Hp → Prop} {i : Nat}
    (S : SupAt X.prog X.K C cc cda) (I : Inv X pins σ H s) (mS : X.mg "super" = none)
    (kf : X.K.lookup f = some of) (of1 : of.data = .func fd) (hp : (fd.params.posonlyargs ++ fd.params.args).head? = some ar)
    (ef : X.env.func = some f) (ec : X.env.code = .ref cda) (hks : X.env.kindOf "super" = some .globalImplicit) (hkc : X.env.kindOf "__class__" = some .free) (hcl : X.env.cells.lookup ("__class__" : Str) = some cc)
    (hka : X.env.kindOf ar.arg = some .local) (hN : X.N[i]? = some ar.arg) (hs : σ[i]? = some (some (.ref a)))
    (ha : H a = some (exo a C none)) (he : PA X [e] ta)
    (h : ta σ H fun vs H1 => vs.length ≤ 1000 ∧ H1 a = some (exo a C none) ∧ R H1)
    (q : ∀ H1 s1, Inv X pins σ H1 s1 → R H1 → H1 a = some (exo a C none) → wpAny (model X.prog X.w) X.A (execs rest X.env) Qf X.xe s1)
    (hi : interactive X.env = false) {pl : Sem Bool}
    (hc : eval (.Call (.Attribute (.Call (.Name "super" p0) [] [] p1) "__init__" p2) [e] [] p3) X.env = (do
      let ov ← attributeBase (.Call (.Name "super" p0) [] [] p1) "__init__" X.env (eval (.Call (.Name "super" p0) [] [] p1) X.env)
      standAt p2.atName
      let (f, first) ← holding [ov] (getMethod ov "__init__" pl)
      callWith p3 f first (backTo p3 (starEach [e] X.env)) []) := by rfl)
    (hst : starEach [e] X.env = (false, eval e X.env) :: starEach [] X.env := by rfl)
    (hsw : swapsWith (.Call (.Attribute (.Call (.Name "super" p0) [] [] p1) "__init__" p2) [e] [] p3) none pos.line X.env = pure false := by rfl) :
    PySem.wpAt (model X.prog X.w) X.A (.func body X.env) (execs (.Expr (.Call (.Attribute (.Call (.Name "super" p0) [] [] p1) "__init__" p2) [e] [] p3) pos :: rest) X.env) Qf X.xe s := by
  obtain ⟨nm, qn, N, bs, bm, sn, sub, ab, col, dd, k0, k1, k2, k3, k5, hC, hbm⟩ := S.T.cls
  obtain ⟨cl, cld, csl, hcell⟩ := S.cell
  obtain ⟨ccl, cdd, ccs, vs, file, tf, hcode, hvs, hfile⟩ := S.code
  obtain ⟨t1, hx⟩ := exo_at I.hok ha
  obtain ⟨mb, hb1, hb2⟩ := I.mod.blt
  have hcd : PySem.W.clsIn X.K C = some { name := nm, bases := bs, mro := .ref C :: bm, ns := N, qualname := qn, hasDict := true, slotNames := sn, subclasses := sub, abstract := ab, collection := col, hasDel := false } := by unfold PySem.W.clsIn; rw [hC] <;> rfl
  have sup := S.sup
  unfold PySem.W.ks_superIn at sup
  rw [hcd] at sup
  refine ks_wpAt_execs_cons (ks_wpAt_Expr_any (ks_wpAt_MethodCall (pl := pl) ?_ hc) hi hsw)
  refine ks_wpAt_super_base hks hkc (by decide) ef (I.kIn _ _ kf) of1 hp ec (I.kIn _ _ hcode) rfl hvs hfile S.top ?_
  refine PySem.W.ks_loadName_global I.ok.kind hks (Calls.loadGlobal_builtin (by rw [I.ok.glob]; exact I.mod.glob.keeps I.bk) mS (by rw [I.ok.blt]; exact hb1.keeps I.bk) ((hb2 "super" (by decide)).trans boot_super) ⟨rfl, ?_⟩)
  refine wpAny_loadName_free I.ok.kind hkc hcl ⟨_, I.kIn _ _ hcell, rfl⟩ ?_
  have hself : ∃ m, s.heap.Ns X.env.locals m ∧ m ar.arg = some (.ref a) := by
    obtain ⟨m, hn, hlk⟩ := I.loc
    obtain ⟨u, ru, L⟩ := hlk i ar.arg (.ref a) hN hs (.inl hka)
    cases (show u = Value.ref a from ru)
    rcases L with ⟨_, z⟩ | ⟨z, _⟩
    · exact ⟨m, hn, z⟩
    · rw [hka] at z
      rcases z with z | z <;> cases z
  obtain ⟨m, hns, hm⟩ := hself
  refine wpAny_loadName_local I.ok.kind hka hns hm ?_
  refine ks_wpAny_isType_cls (I.kIn _ _ hC) rfl ⟨rfl, ?_⟩
  obtain ⟨hp, g, d, t, os⟩ := s
  refine ks_wpAny_call_super (I.kIn _ _ hC) rfl hx rfl (fun c z => nomatch z) (PySem.W.looks_mroIn I.kIn S.own) (fun h' es k => ?_)
  have I1 : Inv X pins σ H ⟨h', g, d, t, os⟩ := I.kept (t' := t) k
  have hx1 := k _ _ hx
  have IA : PySem.W.InstAt h' a ({ cls := .ref C, dict := none, data := .fields #[.ref t1, .none, .none, .none, .bool false, .none] } : Obj) C none := ⟨hx1, rfl, rfl, trivial⟩
  refine PySem.W.kxs_getMethod PySem.W.kxs_ValueError es (PySem.W.looks_opaque I1.kIn S.opq) (l₀ := .ref C :: bm) ?_ rfl I1.kIn sup (IA.type.andThen (PySem.W.looks_subIn I1.kIn S.sub)) (PySem.W.ks_ne I1.kIn IA hcd) (by decide) ?_
  · exact fun A Q E s k q => wpAny_bind ((PySem.W.looks_clsIn I1.kIn hcd) A _ E s k (wpAny_pure q))
  · have szu : hp.objs.size < h'.objs.size := Heap.lt_size es
    have lex := Heap.lt_size hx1
    have k2 : ∀ b o, h'.get? b = some o → (h'.push (PySem.W.kxs_mw "ValueError.__init__" a)).get? b = some o := fun b o z => Heap.get?_push_of_some _ z
    have hu : (h'.push (PySem.W.kxs_mw "ValueError.__init__" a)).get? h'.objs.size = some (PySem.W.kxs_mw "ValueError.__init__" a) := Heap.get?_push_at rfl rfl
    have I2 : Inv X pins σ H ⟨h'.push (PySem.W.kxs_mw "ValueError.__init__" a), g, d, t + 1, os⟩ := I1.kept (t' := t + 1) k2
    have fpo := I1.fpOk (Nat.le_refl h'.objs.size) (I1.hok.fresh (Nat.le_refl _))
    have I3 : Inv X (pins ++ [(h'.objs.size, PySem.W.kxs_mw "ValueError.__init__" a)]) σ H ⟨h'.push (PySem.W.kxs_mw "ValueError.__init__" a), g, d, t + 1, os⟩ := I2.pins_of fun p hp => by
      rcases List.mem_append.mp hp with z | z
      · exact I2.pin p (List.mem_append_right _ z)
      · rw [List.mem_singleton.mp z]
        exact ⟨hu, fpo.1, fpo.2.1, fpo.2.2.1, fun v z => nomatch z⟩
    rw [hst]
    refine PySem.W.kxs_callWith (i := "ValueError.__init__") (x := a) rfl (Calls.evalArgs_plain ?_)
    have run := he.run p3 _ _ σ H _ I3 h
    rw [hst] at run
    refine thn run ?_
    rintro us s1 ⟨ws, H1, J, rv, hlen, ha1, hR⟩
    have hu1 : s1.heap.get? h'.objs.size = some (PySem.W.kxs_mw "ValueError.__init__" a) := (J.pin (h'.objs.size, PySem.W.kxs_mw "ValueError.__init__" a) (by simp)).1
    refine ⟨hu1, ?_⟩
    obtain ⟨t2, hx2⟩ := exo_at J.hok ha1
    have hz : us.length ≤ sizeLine := by
      rw [← Paired.length rv, sizeLine_eq]
      omega
    obtain ⟨h2, g2, d2, tk2, os2⟩ := s1
    refine wpAny_call (codeAny_of_tree ?_)
    show wpAny _ X.A.in1 (callAny (.ref h'.objs.size) ⟨us, []⟩) _ _ _
    simp only [callAny]
    refine wpAny_bind (wpAny_load hu1 ?_)
    simp only [PySem.W.kxs_mw, show (Value.type "method-wrapper" == Value.type "method" || Value.type "method-wrapper" == Value.type "builtin_function_or_method" || Value.type "method-wrapper" == Value.type "method-wrapper") = true by decide, if_true]
    refine PySem.W.KFB.if_so (by decide) ?_
    refine wpAny_bind (PySem.W.check_bound_init F.excBase_ValueError.toExcCallFacts (J.kIn _ _ hC) hx2 rfl ?_)
    refine wpAny_bind (wpAny_pure (wpAny_pure ?_))
    refine ⟨plainId_quiet F.excBase_ValueError.init.plain _, codeAny_builtin F.excBase_ValueError.initEntry ?_⟩
    refine PySem.W.exc_init_tree (cls := .ref C) (t0 := t2) (dv := none) (c2 := .none) (c3 := .none) (b4 := .bool false) hx2 hz fun h3 k3 e3 t3 => ?_
    have J2 := J.write (t' := tk2) (x := a) (e := a) (o := exo a C none) (by rw [ha1]; exact True.intro) (.inl rfl) k3 ⟨_, e3⟩ (exo_ok e3)
    have eu : upd H1 a (exo a C none) = H1 := by
      funext b
      by_cases hb : b = a
      · rw [hb, upd_same, ha1]
      · rw [upd_ne hb]
    rw [eu] at J2
    exact PySem.wpAt_of_wpAny (q H1 _ J2.unpinned hR ha1)
end
end LW
namespace LW
open PySem PySem.Spec PyProof.Rows L2
structure SupScope (N P : List Str) (sc : Scope) : Prop where
  kind : sc.kind = .function
  co : sc.isCoroutine = false
  gen : sc.isGenerator = false
  nd : N.Nodup
  pre : N.take P.length = P
  par : ∀ x ∈ P, sc.names.lookup x = some .local
  nocell : ∀ y ∈ sc.names, y.2 ≠ .cell
  free : ∀ y ∈ sc.names, y.2 = .free → y.1 = ("__class__" : Str)
def cxS (CX : CXT) (P : Program) (w : World) (K : PySem.W.Frag) (mg : Str → Option Value) (base : Heap) (N : List Str) (qual : Str) (scope : Scope) (f : Addr) (cd : Value) (cc : Addr) (A : Around) (outer : List Env) (s : Shared) (H : Hp) (E : XK) : Cx where
  prog := P
  w := w
  K := K
  mg := mg
  base := base
  A := A.deeper (PySem.W.ksEnv qual scope s.heap.objs.size f cd cc)
  N := N
  s_0 := s
  H_0 := H
  env := PySem.W.ksEnv qual scope s.heap.objs.size f cd cc
  outer := outer
  stack := PySem.W.ksEnv qual scope s.heap.objs.size f cd cc :: outer
  ex := []
  calm := true
  fn := fun _ => false
  pn := []
  xe := fun e s' => wpAny (model P w) (A.deeper (PySem.W.ksEnv qual scope s.heap.objs.size f cd cc)) (leaving (PySem.W.ksEnv qual scope s.heap.objs.size f cd cc) e) (fun _ s'' => CX outer H s E e s'') (fun e' s'' => CX outer H s E e' s'') s'
theorem zip_lookup {P : List Str} {us : List Value} {i : Nat} {x : Str} {v : Value} (nd : P.Nodup) (h1 : P[i]? = some x) (h2 : us[i]? = some v) : (P.zip us).reverse.lookup x = some v := by
  induction P generalizing us i with
  | nil => simp at h1
  | cons p r ih =>
    cases us with
    | nil => simp at h2
    | cons u us =>
      show ((p, u) :: r.zip us).reverse.lookup x = some v
      rw [List.reverse_cons, List.lookup_append]
      cases i with
      | zero =>
        simp at h1 h2
        subst h1
        subst h2
        have : (r.zip us).reverse.lookup p = none := by
          cases e : (r.zip us).reverse.lookup p with
          | none => rfl
          | some w =>
            have m := PySem.mem_of_lookup e
            rw [List.mem_reverse] at m
            exact absurd (List.of_mem_zip m).1 (List.nodup_cons.mp nd).1
        rw [this]
        simp
      | succ i =>
        rw [ih (List.nodup_cons.mp nd).2 (by simpa using h1) (by simpa using h2)]
        rfl
theorem inv_sup {CX : CXT} {P : Program} {w : World} {K : PySem.W.Frag} {mg : Str → Option Value} {base : Heap} {N ps : List Str} {qual : Str} {scope : Scope} {f cc : Addr} {cd : Value} {A : Around} {outer : List Env} {s : Shared} {H : Hp} {E : XK} {us : List Value} {vs : List V} {h₀ : Heap} {tk : Nat} {oc : Obj} {vc : Option Value}
    (S : SupScope N ps scope) (hd : A.handled = none) (e0 : Env0 P w K mg base A outer s H) (hl : vs.length = ps.length) (r : Vals vs us) (hcc : K.lookup cc = some oc) (hvc : oc.data = .cell vc)
    (hns : h₀.Ns s.heap.objs.size (fun x => (ps.zip us).reverse.lookup x)) (hk : ∀ b o, s.heap.get? b = some o → h₀.get? b = some o) :
    Inv (cxS CX P w K mg base N qual scope f cd cc A outer s H E) [] (start N vs) H { s with heap := h₀, toks := tk } := by
  have hpl : ps.length ≤ N.length := by have := congrArg List.length S.pre; rw [List.length_take] at this; omega
  have noA : ∀ b : Addr, b ∉ (cxS CX P w K mg base N qual scope f cd cc A outer s H E).ex := fun b z => absurd (show b ∈ ([] : List Addr) from z) (by simp)
  have only : ∀ y c, (cxS CX P w K mg base N qual scope f cd cc A outer s H E).env.cells.lookup y = some c → y = ("__class__" : Str) ∧ c = cc := fun y c z => by
    have m : (y, c) ∈ [(("__class__" : Str), cc)] := PySem.mem_of_lookup z
    have e := List.mem_singleton.mp m
    cases e
    exact ⟨rfl, rfl⟩
  have kin : K.In s.heap := e0.mod.kin.keeps fun b o e => (e0.bs b o e).1
  have ccH : H cc = none := (e0.bs cc oc (e0.mod.kin _ _ hcc)).2
  refine ⟨⟨e0.mod, S.kind, rfl, rfl, Nat.le_refl _, fun y z c h1 h2 => (only y c h1).1.trans (only z c h2).1.symm, fun y hy => ?_, fun y c z _ => absurd (show false = true from z) Bool.false_ne_true, fun _ => hd, Around.frames_deeper e0.frames, .inr ⟨rfl, rfl⟩, fun b z => absurd z (noA b), e0.bs, e0.bsz, fun b _ _ => noA b, fun b z => absurd z (noA b), e0.funs, e0.frf⟩,
    rfl, e0.bare, Un.kept hk, ⟨_, hns, fun i y v h1 h2 h3 => ?_⟩, fun y c h => ?_, e0.hok.fresh (Nat.le_refl _), fun y c h => ?_, fun p hp => absurd (show p ∈ ([] : List (Addr × Obj)) from hp) (by simp), e0.hok.kept hk, ?_⟩
  · have hy : scope.names.lookup y = some .cell ∨ scope.names.lookup y = some .free := hy
    rcases hy with hy | hy
    · exact absurd rfl (S.nocell _ (PySem.mem_of_lookup hy))
    · have e := S.free _ (PySem.mem_of_lookup hy) rfl
      cases e
      exact ⟨cc, rfl⟩
  · have hi : i < vs.length := by
      unfold L2.start at h2
      by_cases hi : i < vs.length
      · exact hi
      · rw [List.getElem?_append_right (by simpa using hi)] at h2
        rw [List.getElem?_replicate] at h2
        split at h2 <;> cases h2
    have ha : vs[i]? = some v := by
      unfold L2.start at h2
      rw [List.getElem?_append_left (by simpa using hi), List.getElem?_map] at h2
      cases e : vs[i]? with
      | none => rw [e] at h2; cases h2
      | some a => rw [e] at h2; cases h2; rfl
    obtain ⟨u, hu, rv⟩ := r.get ha
    have hp : ps[i]? = some y := by
      rw [← S.pre, List.getElem?_take_of_lt (by omega)]; exact h1
    have ndP : ps.Nodup := by rw [← S.pre]; exact S.nd.sublist (List.take_sublist _ _)
    exact ⟨u, rv, .inl ⟨S.par y (List.mem_of_getElem? hp), zip_lookup ndP hp hu⟩⟩
  · rw [(only y c h).2]
    exact ⟨vc, oc, hk _ _ (kin _ _ hcc), hvc⟩
  · rw [(only y c h).2]
    exact ccH
  · unfold L2.start
    show _ = N.length
    rw [List.length_append, List.length_map, List.length_replicate]
    omega
/-- THE RULE: a def whose scope has the free name __class__, by its body -/
theorem fn_sup {CX : CXT} {P : Program} {w : World} {K : PySem.W.Frag} {mg : Str → Option Value} {base : Heap} {k : Nat} {f cc : Addr} {name qual : Str} {params : Arguments} {body : List Stmt} {scope : Scope} {dV kV doc pm cdv ct oc : Value} {an od : Option Addr}
    {osl : Array (Option Value)} {N ps : List Str} {sp : Sp} {occ : Obj} {vc : Option Value} (lk : K.lookup f = some ⟨oc, od, .func (PySem.W.ksFn name qual params body scope dV kV doc pm an cdv ct cc), osl⟩) (hcd : PySem.W.codeIn K cdv qual = true) (hcc : K.lookup cc = some occ) (hvc : occ.data = .cell vc)
    (S : SupScope N ps scope) (len : ∀ vs H Q E, sp vs H Q E → vs.length = ps.length)
    (hbody : ∀ (A : Around) (outer : List Env) (s : Shared) (H : Hp) (vs : List V) (Q : VK) (E : XK) (s1 : Shared), Room k (A.deeper (PySem.W.ksEnv qual scope s.heap.objs.size f cdv cc)) → sp vs H Q E →
      Inv (cxS CX P w K mg base N qual scope f cdv cc A outer s H E) [] (L2.start N vs) H s1 →
      PySem.wpAt (model P w) (A.deeper (PySem.W.ksEnv qual scope s.heap.objs.size f cdv cc)) (.func body (PySem.W.ksEnv qual scope s.heap.objs.size f cdv cc)) (execs body (PySem.W.ksEnv qual scope s.heap.objs.size f cdv cc))
        (SP (cxS CX P w K mg base N qual scope f cdv cc A outer s H E) [] { nx := fun _ H' => Q .non H', rt := Q }) (cxS CX P w K mg base N qual scope f cdv cc A outer s H E).xe s1) :
    FnOk P w K mg base CX (k + 1) f (PySem.W.ksFn name qual params body scope dV kV doc pm an cdv ct cc) ps sp := by
  refine ⟨len, fun A outer s H args us vs Q E hr e0 hb r hsp => ?_⟩
  have hl := len _ _ _ _ hsp
  have KX : K.In s.heap := e0.mod.kin.keeps fun b o e => (e0.bs b o e).1
  have lim : s.heap.NoLimit := e0.mod.nolimit.keeps fun b o e => (e0.bs b o e).1
  refine ks_codeAny_call_defAt (fd := PySem.W.ksFn name qual params body scope dV kV doc pm an cdv ct cc) (body := body) (binds := ps.zip us) hr.depth (KX _ _ lk) rfl lim (PySem.W.codeRec_of KX hcd) rfl hb S.nocell
    (fun y hy => S.par _ (List.of_mem_zip (show (y.1, y.2) ∈ ps.zip us from hy)).1) (fun h₁ hns hk₁ => ?_) S.co S.gen S.kind
  have I : Inv (cxS CX P w K mg base N qual scope f cdv cc A outer s H E) [] (L2.start N vs) H { s with heap := h₁, toks := s.toks + (ps.zip us).length } := inv_sup S hr.hd e0 hl r hcc hvc hns hk₁
  refine ks_wpAt_mono (hbody A outer s H vs Q E _ (hr.deeper _) hsp I) (fun fl s' hs => ?_) fun e s' hs => hs
  have fin : ∀ {σ' : L2.St} {H' : Hp} {v : V} {u : Value}, Inv (cxS CX P w K mg base N qual scope f cdv cc A outer s H E) [] σ' H' s' → RelV v u → Q v H' → CE outer P w H s Q u s' :=
    fun {σ' H' v u} J rv q => ⟨v, H', J.os, J.bare, J.base, J.hok, rv, q⟩
  cases fl with
  | ret u =>
    obtain ⟨v, σ', H', J, rv, q⟩ := hs
    exact fin J rv q
  | next =>
    obtain ⟨σ', H', J, q⟩ := hs
    exact fin (v := V.non) (u := Value.none) J rfl q
  | brk =>
    obtain ⟨_, _, _, q⟩ := hs
    exact False.elim q
  | cont =>
    obtain ⟨_, _, _, q⟩ := hs
    exact False.elim q
end LW
namespace LW
open PySem PySem.Spec PyProof.Rows L2
/-! ### enumerate(list, start=c) -/
/-- the list at a as it stands at each turn, each item in a new pair behind c + i -/
def IteC (K : PySem.W.Frag) (c : Int) (a : Addr) : It where
  go := fun i H => ∃ (xs : List V) (x : V), SqL K H a xs ∧ xs[i]? = some x
  yld := fun i H v H' => ∃ T x, v = .ref T ∧ H T = none ∧ H' = upd H T (.tup [.int (c + (i : Nat)), x]) ∧ ∀ xs, SqL K H a xs → xs[i]? = some x
  stop := fun i H => ∃ xs : List V, SqL K H a xs ∧ xs.length ≤ i
theorem apart_cls {h : Heap} {a b : Addr} {o o' : Obj} (e : h.get? a = some o) (e' : h.get? b = some o') (n : o.cls ≠ o'.cls) : a ≠ b := by
  intro z
  subst z
  rw [e] at e'
  cases e'
  exact n rfl
theorem turn_enumC {P : Program} {w : World} {K : PySem.W.Frag} {elts : List Expr} {kk : Nat} {tp : Pos} (c : Int) (a e it : Addr) :
    Turn P w K (.Tuple elts kk tp) (IteC K c a) [e, it] e (fun i h => (∃ old, IsEnum h e it (c + (i : Nat)) old) ∧ h.IsListIter it a i ∧ e ≠ it) where
  mem := by simp
  obj := by
    rintro i h ⟨⟨old, he⟩, ⟨o, ho, hc, hd⟩, _⟩ b hb
    have e' : b = e ∨ b = it := by simpa using hb
    rcases e' with z | z
    · subst z
      exact ⟨_, he, fun v q => nomatch q⟩
    · subst z
      exact ⟨o, ho, fun v q => by rw [hd] at q; cases q⟩
  keep := by
    rintro i h h' ⟨⟨old, he⟩, hi, hne⟩ k
    exact ⟨⟨old, k e (by simp) _ he⟩, hi.at fun o q => k it (by simp) o q, hne⟩
  item := by
    intro X hP hw hK hc i pins s σ H E I hf st hg
    subst hP
    subst hw
    subst hK
    obtain ⟨⟨old, he⟩, hit, hne⟩ := st
    obtain ⟨xs, x, hq, hx⟩ := hg
    obtain ⟨its, rv, p, hz⟩ := I.list hq
    obtain ⟨u, hu, ru⟩ := rv.get hx
    have hel := Heap.lt_size he
    have hil : it < s.heap.objs.size := by
      obtain ⟨_, q, _⟩ := hit
      exact Heap.lt_size q
    have hl := p.isList
    have nli : a ≠ it := by
      obtain ⟨o1, q1, c1, _⟩ := hit
      obtain ⟨o2, q2, c2, _⟩ := hl
      exact apart_cls q2 q1 (by rw [c1, c2]; decide)
    have nel : e ≠ a := by
      obtain ⟨o2, q2, c2, _⟩ := hl
      exact apart_cls he q2 (by rw [c2]; show Value.type "enumerate" ≠ Value.type "list"; decide)
    have D := Draws.list (prog := X.prog) (w := X.w) (A := X.A.in1) (I.ok.hd hc) it a nli its.toArray
    have hlt : i < its.toArray.size := by
      have := (List.getElem?_eq_some_iff.mp hu).1
      simpa using this
    refine wpAny_pyNext_enum_itemC D he ⟨hit, hl⟩ hlt hne (by simp [hne, nel]) ?_
    intro y h' tk hy ho hst hT hsz hk
    have ey : y = u := by
      have h1 : its.toArray[i]? = some y := hy
      rw [List.getElem?_toArray, hu] at h1
      exact (Option.some.inj h1).symm
    subst ey
    refine ⟨_, rfl, wpAny_letOwnedTupleGo_enum (s := { s with heap := h', toks := tk + 1 }) ho ?_⟩
    intro h2 he2 sb
    have hT2 : h2.get? s.heap.objs.size = some { cls := .type "tuple", data := .seq #[.int (c + (i : Nat)) tk, y] } := (sb.2 _ (Nat.ne_of_gt hel)).trans hT
    have new : ObjOk X.prog X.w (upd H s.heap.objs.size (.tup [.int (c + (i : Nat)), x])) h2 s.heap.objs.size (.tup [.int (c + (i : Nat)), x]) :=
      ⟨by show 2 ≤ sizeLine; decide, [.int (c + (i : Nat)) tk, y], .cons ⟨_, rfl⟩ (.cons ru .nil), ⟨_, hT2, rfl, _, rfl⟩⟩
    have I1 := I.turnedNew (ch := [e, it]) (h' := h2) (t' := tk + 1) (T := s.heap.objs.size) (ob := .tup [.int (c + (i : Nat)), x])
      (fun b ob hb q => (sb.2 b (fun z => hb (by simp [z]))).trans (hk b ob (fun z => hb (by simp [z])) (fun z => hb (by simp [z])) q)) hf (Nat.le_refl _) new
    refine ⟨.ref s.heap.objs.size, _, I1, rfl, ⟨_, x, rfl, I.hok.fresh (Nat.le_refl _), rfl, ?_⟩, ⟨⟨y, ?_⟩, hst.1.at fun o q => (sb.2 it (Ne.symm hne)).trans q, hne⟩, ?_⟩
    · intro ys hy
      rw [I.list_inj hy hq]
      exact hx
    · have e1 : c + ((i + 1 : Nat) : Int) = c + (i : Int) + 1 := by omega
      rw [e1]
      exact he2
    · intro b hb
      have e' : b = e ∨ b = it := by simpa using hb
      have hb' : b < s.heap.objs.size := by
        rcases e' with z | z
        · rw [z]; exact hel
        · rw [z]; exact hil
      rw [upd_ne (Nat.ne_of_lt hb')]
      exact (hf b hb).1
  done := by
    intro X hP hw hK hc i pins s σ H E I hf st hg
    subst hP
    subst hw
    subst hK
    obtain ⟨⟨old, he⟩, hit, hne⟩ := st
    obtain ⟨xs, hq, hx⟩ := hg
    obtain ⟨its, rv, p, hz⟩ := I.list hq
    have hl := p.isList
    have nli : a ≠ it := by
      obtain ⟨o1, q1, c1, _⟩ := hit
      obtain ⟨o2, q2, c2, _⟩ := hl
      exact apart_cls q2 q1 (by rw [c1, c2]; decide)
    obtain ⟨f0, f1, f2, f3, f4, f5⟩ := hf it (by simp)
    have len := rv.length
    have hTy : s.TypeIs (.ref e) "enumerate" := ⟨_, he, rfl⟩
    unfold pyNext
    refine wpAny_bind (wpAny_attempt (wpAny_callSpecial?_slot (name := Str.ofString "__next__") hTy F.slot_enumerate_next (wpAny_call_entry F.slot_enumerate_next hTy F.entry_enumerate_next ?_ (F.args_enumerate_next_1 _))))
    show wpAny _ _ (field (.ref e) 2 >>= _) _ _ _
    refine wpAny_bind (wpAny_field he rfl (x := .ref it) rfl ?_)
    refine wpAny_bind (wpAny_nextOf_list_end (I.ok.hd hc) hit hl (by simp; omega) ?_)
    rintro h' x he' ⟨o, ho, hcl⟩
    refine wpAny_bind (wpAny_isInstance (T := "StopIteration") (b := true) ⟨o, ho, hcl⟩ isSubtype_stop ?_)
    exact wpAny_pure ⟨rfl, I.turned (t' := s.toks) (fun b o hb q => he' b o hb q) f0 f1 f3 f4 f5⟩
  self := by
    rintro A i s Q E ⟨⟨_, he⟩, _⟩ h
    exact wpAny_pyIter_enum he h
theorem callWith_tyKw {M : Model} {A : Around} {E : Value → Shared → Prop} {s : Shared} {env : Env} {pos : Pos} {T : String} {e : Expr} {rest : List Expr} {kws : List Keyword} {Q : Value → Shared → Prop}
    (h : wpAny M A (spliced (backTo pos (starEach (e :: rest) env))) (fun vs s1 => wpAny M A (evalAll ((backToKw pos (keywordEach kws env)).map (·.2)))
      (fun kvs s2 => wpAny M A (call (.type T) vs (((backToKw pos (keywordEach kws env)).filterMap (·.1)).zip kvs)) Q E s2) E s1) E s)
    (he : backTo pos (starEach (e :: rest) env) = (false, eval e env) :: backTo pos (starEach rest env) := by rfl)
    (hp : (backTo pos (starEach (e :: rest) env)).any (·.1) = false := by rfl)
    (hall : (backToKw pos (keywordEach kws env)).all (·.1.isSome) = true := by rfl)
    (hkw : (backToKw pos (keywordEach kws env)).any (·.1.isNone) = false := by rfl) :
    wpAny M A (callWith pos (.type T) [] (backTo pos (starEach (e :: rest) env)) (backToKw pos (keywordEach kws env))) Q E s := by
  have g : wpAny M A (evalArgs (.type T) true (backTo pos (starEach (e :: rest) env)) (backToKw pos (keywordEach kws env))) (fun a s1 => wpAny M A (call (.type T) ([] ++ a.pos) a.kw) Q E s1) E s := by
    rw [he] at h ⊢
    exact evalArgs_kwB hall h
  unfold callWith
  refine wpAny_bind (wpAny_holding (wpAny_mono g (fun a s1 h1 => wpAny_bind (wpAny_standAt ?_)) fun _ _ z => z))
  simp only [hp, hkw, Bool.or_false]
  refine wpAny_bind (wpAny_pure ?_)
  exact wpAny_bind (wpAny_mono h1 (fun r s2 hr => wpAny_bind (wpAny_holding (wpAny_point (wpAny_pure hr)))) fun _ _ z => z)
def iEnumC (K : PySem.W.Frag) (ta tk : TA) : TI := fun σ H R => ta σ H fun vs H1 => tk σ H1 fun ks H2 => ∃ (a : Addr) (c : Int) (xs : List V), vs = [.ref a] ∧ ks = [.int c] ∧ -(2 ^ 63) ≤ c ∧ c < 2 ^ 63 ∧ SqL K H2 a xs ∧ R (IteC K c a) H2
theorem pi_enumC {X : Cx} {e se : Expr} {ta tk : TA} {p pos kp tp : Pos} {elts : List Expr} {kk : Nat} (hg : Gl X "enumerate") (hm : X.mg "enumerate" = none) (ha : PA X [e] ta) (hk : PK X [⟨some "start", se, kp⟩] tk)
    (hs : starEach [e] X.env = [(false, eval e X.env)] := by rfl) :
    PI X (.Tuple elts kk tp) (.Call (.Name "enumerate" p) [e] [⟨some "start", se, kp⟩] pos) (iEnumC X.K ta tk) := by
  constructor
  intro pins s σ H R I h
  refine wpAny_Call_Name_kw (ld_blt I hg hm boot_enumerate (callWith_tyKw (kws := [⟨some "start", se, kp⟩]) (thn (ha.run pos pins s σ H _ I h) ?_) (by rw [hs]; rfl) (by rw [hs]; rfl)))
  rintro us s1 ⟨vs, H1, I1, r1, q1⟩
  refine thn (hk.run pos pins s1 σ H1 _ I1 q1) ?_
  rintro ws s2 ⟨ks, H2, I2, r2, a, c, xs, ea, ec, c0, c1, hq, q⟩
  subst ea
  subst ec
  cases r1 with
  | cons r rr =>
    cases rr
    cases r
    cases r2 with
    | cons r' rr' =>
      cases rr'
      obtain ⟨t, et⟩ := r'
      subst et
      obtain ⟨its, rv, p', hz⟩ := I2.list hq
      show wpAny _ _ (call (.type "enumerate") [.ref a] [(Str.ofString "start", .int c t)]) _ _ _
      refine enum_begins_start (begins_list a its.toArray) p'.isList c0 c1 ?_
      intro h' he hit hsz hkp
      have hiter : h'.IsListIter s2.heap.objs.size a 0 := ⟨_, hit, rfl, rfl⟩
      refine wpAny_pyIter_enum he ?_
      have I3 : Inv X pins σ H2 { s2 with heap := h' } := I2.kept (t' := s2.toks) hkp
      refine ⟨s2.heap.objs.size + 1, [s2.heap.objs.size + 1, s2.heap.objs.size], _, _, H2, rfl, I3, turn_enumC c a (s2.heap.objs.size + 1) s2.heap.objs.size, ⟨⟨.none, ?_⟩, hiter, Nat.succ_ne_self _⟩, ?_, q⟩
      · rw [show c + ((0 : Nat) : Int) = c by omega]
        exact he
      · intro b hb
        have e' : b = s2.heap.objs.size + 1 ∨ b = s2.heap.objs.size := by simpa using hb
        have hle : s2.heap.objs.size ≤ b := by
          rcases e' with z | z
          · rw [z]; exact Nat.le_add_right _ _
          · rw [z]; exact Nat.le_refl _
        exact I2.fpOk hle (I2.hok.fresh hle)
theorem walk_enumC {K : PySem.W.Frag} {c : Int} {a : Addr} {xs : List V} : Walk (IteC K c a) xs.length (fun H => SqL K H a xs) (YPair (fun i => some (.int (c + (i : Nat)))) (fun i => xs[i]?)) := by
  refine ⟨fun i _ hi q => ⟨xs, xs[i], q, by simp [hi]⟩, fun _ q => ⟨xs, q, Nat.le_refl _⟩, ?_⟩
  rintro i H v H' _ q ⟨T, x, h1, h2, h3, h4⟩
  exact ⟨T, .int (c + (i : Nat)), x, h1, h2, h3, rfl, h4 xs q⟩
end LW
namespace LW
open PySem PySem.Spec PyProof.Rows L2 GxR
/-- sixteen hexadecimal digits -/
def isAddr (t : Str) : Bool := decide (t.length = 16) && t.cps.toList.all fun c => decide (c ∈ hexDigits)
theorem digits_eq : (Str.ofString "0123456789abcdef").cps.toList = hexDigits := by decide +kernel
/-- a def of the text whose code object stands at c -/
structure FunC (K : PySem.W.Frag) (x qual : Str) (st : Stmt) (f : Addr) (fd : FuncData) (c : Addr) : Prop where
  ex : ∃ (oc : Value) (od : Option Addr) (kV doc pm : Value) (an : Option Addr) (ct : Value) (osl : Array (Option Value)),
    fd = PySem.W.fnOf x qual (defArgs st) (defBody st) (defScope st) .none kV doc pm an (.ref c) ct ∧ K.lookup f = some ⟨oc, od, .func fd, osl⟩ ∧ PySem.W.codeIn K (.ref c) qual = true
  kp : PySem.W.keepIn K (.ref f) = true
theorem FunC.ok {P : Program} {w : World} {K : PySem.W.Frag} {mg : Str → Option Value} {base : Heap} {x qual : Str} {st : Stmt} {f c : Addr} {fd : FuncData} {N ps : List Str} {k : Nat} {sp : Sp} (F : FunC K x qual st f fd c)
    (S : FnScope N ps (defScope st)) (len : ∀ vs H Q E, sp vs H Q E → vs.length = ps.length)
    (body : ∀ (A : Around) (outer : List Env) (s : Shared) (H : Hp) (vs : List V) (Q : VK) (E : XK), Room k (A.deeper (envOfC qual (defScope st) s.heap.objs.size f (.ref c))) → sp vs H Q E →
      ∃ t, PSs (cxOf CX0 P w K mg base N qual (defScope st) f (.ref c) A outer s H E).nox (defBody st) t ∧ t { nx := fun _ H' => Q .non H', rt := Q } (L2.start N vs) H) :
    FnOk P w K mg base CX0 (k + 1) f fd ps sp := by
  obtain ⟨oc, od, kV, doc, pm, an, ct, osl, e, lk, hcd⟩ := F.ex
  subst e
  refine fn_of lk hcd S len fun A outer s H vs Q E hr hsp => ?_
  obtain ⟨t, h, q⟩ := body A outer s H vs Q E hr hsp
  exact ⟨t, h.nox, q⟩
theorem no_free {ns : List (Str × NameKind)} {R : Str × NameKind → Prop} (h : ∀ y ∈ ns, y.2 ≠ .free) : ∀ y ∈ ns, y.2 = .free → R y := fun y hy e => absurd e (h y hy)
/-- a def of the module by its name -/
structure DefAt (K : PySem.W.Frag) (mg : Str → Option Value) (x : Str) (st : Stmt) (ps : List Str) (f : Addr) (fd : FuncData) : Prop where
  fn : Fun K x x st f fd
  at_ : mg x = some (.ref f)
  bd : Binds K fd ps []
theorem tyes {σ : L2.St} {H : Hp} {A B : Hp → Prop} (h : A H) : tYes σ H fun b H3 => if b = true then A H3 else B H3 := by
  show (if true = true then A H else B H)
  rw [if_pos rfl]
  exact h
theorem same_upd {H : Hp} {p : Addr} {o : HO} (h : H p = none) : Same H (upd H p o) := fun b x e => by
  rw [upd_ne (ne_of_none e h)]
  exact e
theorem nat_of {v m : Int} (h0 : 0 ≤ v) (h1 : v < m) : ∃ j : Nat, v = (j : Int) ∧ (j : Int) < m := ⟨v.toNat, by omega, by omega⟩
/-! ### the law's own state: a pair of addresses -/
def LS (H : Hp) (a c : Addr) (n : Int) (cs : List Int) : Prop :=
  H a = some (.lst [.int n, .ref c]) ∧ H c = some (.lst (cs.map V.int)) ∧ a ≠ c ∧ 0 < cs.length ∧ cs.length ≤ 63 ∧ (∀ z ∈ cs, 0 ≤ z) ∧ 0 ≤ n
def SL (H : Hp) (a c : Addr) : Prop := ∃ n cs, LS H a c n cs
theorem SL.eq {H H' : Hp} {a c : Addr} (s : SL H a c) (ea : H' a = H a) (ec : H' c = H c) : SL H' a c := by
  obtain ⟨n, cs, h1, h2, r⟩ := s
  exact ⟨n, cs, by rw [ea]; exact h1, by rw [ec]; exact h2, r⟩
theorem SL.same {H H' : Hp} {a c : Addr} (s : SL H a c) (e : Same H H') : SL H' a c := by
  obtain ⟨n, cs, h1, h2, r⟩ := s
  exact ⟨n, cs, e _ _ h1, e _ _ h2, r⟩
theorem SL.ne {H : Hp} {a c x : Addr} (s : SL H a c) (n : H x = none) : x ≠ a ∧ x ≠ c := by
  obtain ⟨_, cs, h1, h2, r⟩ := s
  exact ⟨(ne_of_none h1 n).symm, (ne_of_none h2 n).symm⟩
theorem SL.tab {H : Hp} {a c B : Addr} (s : SL H a c) (t : TabG H B) : B ≠ a ∧ B ≠ c := by
  obtain ⟨_, cs, h1, h2, r⟩ := s
  obtain ⟨ps, e, _⟩ := t
  exact ⟨ne_of e h1 (by intro q; cases q), ne_of e h2 (by intro q; cases q)⟩
theorem tab_same {H H' : Hp} {B : Addr} (t : TabG H B) (e : Same H H') : TabG H' B := by
  obtain ⟨ps, h, r⟩ := t
  exact ⟨ps, e _ _ h, r⟩
theorem tab_eq {H H' : Hp} {B : Addr} (t : TabG H B) (e : H' B = H B) : TabG H' B := by
  obtain ⟨ps, h, r⟩ := t
  exact ⟨ps, by rw [e]; exact h, r⟩
def spState (K : PySem.W.Frag) : Sp := fun vs H Q _ => ∃ (l : Addr) (ns : List Int), vs = [.ref l] ∧ SqL K H l (ns.map V.int) ∧ ns.length ≤ 63 ∧
  ∀ (a c : Addr) (H' : Hp), H a = none → H c = none → Same H H' → SL H' a c → Q (.ref a) H'
/-- a draw: 0 .. m - 1 -/
def spTake : Sp := fun vs H Q _ => ∃ (a c : Addr) (m : Int), vs = [.ref a, .int m] ∧ SL H a c ∧ 1 ≤ m ∧ m < 1000000 ∧
  ∀ (v : Int) (H' : Hp), 0 ≤ v → v < m → (∀ b, b ≠ a → b ≠ c → H' b = H b) → SL H' a c → Q (.int v) H'
theorem at2_0 {x y : V} : atI [x, y] 0 = some x := rfl
theorem at2_1 {x y : V} : atI [x, y] 1 = some y := rfl
/-! ### as it was, but for tables of code that may have grown -/
structure Gr (H H' : Hp) : Prop where
  keep : ∀ b o, H b = some o → (∀ ps, o ≠ .tbl ps) → H' b = some o
  tab : ∀ b, TabG H b → TabG H' b
  free : ∀ b, H' b = none → H b = none
theorem Gr.refl (H : Hp) : Gr H H := ⟨fun _ _ e _ => e, fun _ t => t, fun _ n => n⟩
theorem Gr.trans {H H1 H2 : Hp} (g : Gr H H1) (h : Gr H1 H2) : Gr H H2 := ⟨fun b o e n => h.keep b o (g.keep b o e n) n, fun b t => h.tab b (g.tab b t), fun b n => g.free b (h.free b n)⟩
theorem Gr.of_same {H H' : Hp} (s : Same H H') : Gr H H' := ⟨fun b o e _ => s b o e, fun b t => tab_same t s, fun b n => by
  cases e : H b with
  | none => rfl
  | some o => rw [s b o e] at n; cases n⟩
theorem Gr.of_tab {H H' : Hp} {B : Addr} (tb : TabG H B) (t : Tabbed B H H') : Gr H H' := ⟨fun b o e n => by
  obtain ⟨ps, h, _⟩ := tb
  rw [t.2 b (fun z => by rw [z, h] at e; cases e; exact n ps rfl)]
  exact e, fun b u => by
    by_cases hb : b = B
    · rw [hb]; exact t.1
    · exact tab_eq u (t.2 b hb), fun b n => by
    by_cases hb : b = B
    · obtain ⟨ps, h, _⟩ := t.1
      rw [hb, h] at n; cases n
    · rw [← t.2 b hb]; exact n⟩
theorem Gr.upd {H H' : Hp} {p : Addr} {o : HO} (g : Gr H H') (n : H' p = none) : Gr H (upd H' p o) := g.trans (.of_same (same_upd n))
theorem Gr.lst {H H' : Hp} {b : Addr} {xs : List V} (g : Gr H H') (e : H b = some (.lst xs)) : H' b = some (.lst xs) := g.keep b _ e (fun ps z => nomatch z)
theorem Gr.tup {H H' : Hp} {b : Addr} {xs : List V} (g : Gr H H') (e : H b = some (.tup xs)) : H' b = some (.tup xs) := g.keep b _ e (fun ps z => nomatch z)
theorem Gr.SL {H H' : Hp} {a c : Addr} (g : Gr H H') (s : SL H a c) : SL H' a c := by
  obtain ⟨n, cs, h1, h2, r⟩ := s
  exact ⟨n, cs, g.lst h1, g.lst h2, r⟩
/-- a promise without a way out is one of the calm kind -/
theorem calm_of {P : Program} {w : World} {K : PySem.W.Frag} {mg : Str → Option Value} {base : Heap} {k : Nat} {f : Addr} {fd : FuncData} {ps : List Str} {sp sp' : Sp} (F : FnOk P w K mg base (L2.CX P w) k f fd ps sp)
    (h : ∀ vs H Q E, sp' vs H Q E → sp vs H Q (fun _ _ _ => False)) : FnOk P w K mg base CX0 k f fd ps sp' := by
  refine ⟨fun vs H Q E q => F.len vs H Q _ (h vs H Q E q), fun A outer s H args us vs Q E hr e0 hb r q => codeAny_mono (F.run A outer s H args us vs Q _ hr e0 hb r (h vs H Q E q)) fun res s' hs => ?_⟩
  cases res with
  | ok fl => cases fl <;> exact hs
  | error e =>
    obtain ⟨_, _, _, _, _, _, _, _, _, _, _, _, z⟩ := hs
    exact z.elim
end LW
namespace LW
open PySem PySem.Spec PyProof.Rows L2
/-- the def of the module by the name x keeps sp -/
def Cal (P : Program) (w : World) (K : PySem.W.Frag) (mg : Str → Option Value) (base : Heap) (CX : CXT) (k : Nat) (x : Str) (ps : List Str) (sp : Sp) : Prop :=
  ∃ (f : Addr) (fd : FuncData), FnOk P w K mg base CX k f fd ps sp ∧ mg x = some (.ref f) ∧ PySem.W.keepIn K (.ref f) = true ∧ L2.Binds K fd ps []
/-- the method m of the class at C keeps sp -/
def CalM (P : Program) (w : World) (K : PySem.W.Frag) (mg : Str → Option Value) (base : Heap) (CX : CXT) (k : Nat) (C : Addr) (m : Str) (ps : List Str) (sp : Sp) : Prop :=
  ∃ (f : Addr) (fd : FuncData), FnOk P w K mg base CX k f fd ps sp ∧ Cls K C ∧ Meth K C m f ∧ L2.Binds K fd ps []
/-- the class x at C is made, its __init__ keeps sp -/
def CalK (P : Program) (w : World) (K : PySem.W.Frag) (mg : Str → Option Value) (base : Heap) (CX : CXT) (k : Nat) (x : Str) (C : Addr) (ps : List Str) (sp : Sp) : Prop :=
  ∃ (f : Addr) (fd : FuncData), FnOk P w K mg base CX k f fd ps sp ∧ Mk K C f ∧ mg x = some (.ref C) ∧ L2.Binds K fd ps []
theorem Cal.of {P : Program} {w : World} {K : PySem.W.Frag} {mg : Str → Option Value} {base : Heap} {CX : CXT} {k : Nat} {x : Str} {st : Stmt} {ps : List Str} {f : Addr} {fd : FuncData} {sp : Sp} (D : DefAt K mg x st ps f fd) (F : FnOk P w K mg base CX k f fd ps sp) : Cal P w K mg base CX k x ps sp :=
  ⟨f, fd, F, D.at_, D.fn.kp, D.bd⟩
theorem Cal.calm {P : Program} {w : World} {K : PySem.W.Frag} {mg : Str → Option Value} {base : Heap} {k : Nat} {x : Str} {ps : List Str} {sp sp' : Sp} (C : Cal P w K mg base (L2.CX P w) k x ps sp) (h : ∀ vs H Q E, sp' vs H Q E → sp vs H Q (fun _ _ _ => False)) : Cal P w K mg base CX0 k x ps sp' := by
  obtain ⟨f, fd, F, a, kp, b⟩ := C
  exact ⟨f, fd, calm_of F h, a, kp, b⟩
section
variable {X : Cx} {k j : Nat} {x m : Str} {C : Addr} {ps : List Str} {sp : Sp} {e o : Expr} {es : List Expr} {t : TA} {ta : TE} {p apos pos : Pos} {W : WX}
theorem pe_cal (c : Cal X.prog X.w X.K X.mg X.base CX0 k x ps sp) (hr : Room j X.A) (ha : PA X (e :: es) t) (hg : Gl X x := by rfl) (hk : k ≤ j := by decide) (hdb : (x == ("__debug__" : Str)) = false := by decide)
    (he : starEach (e :: es) X.env = (false, eval e X.env) :: starEach es X.env := by rfl) (hpl : (backTo pos (starEach es X.env)).any (·.1) = false := by rfl) : PE X (.Call (.Name x p) (e :: es) [] pos) (tCall sp [] E0 t) := by
  obtain ⟨f, fd, F, a, kp, b⟩ := c
  exact pe_call F (hr.mono hk) hg a kp b .nil pass0 ha hdb he hpl
theorem pe_cal0 (c : Cal X.prog X.w X.K X.mg X.base CX0 k x ps sp) (hr : Room j X.A) (hg : Gl X x := by rfl) (hk : k ≤ j := by decide) (hdb : (x == ("__debug__" : Str)) = false := by decide) : PE X (.Call (.Name x p) [] [] pos) (tCall sp [] E0 tNil) := by
  obtain ⟨f, fd, F, a, kp, b⟩ := c
  exact pe_call0 F (hr.mono hk) hg a kp b .nil pass0 hdb
/-- of one that may raise -/
theorem pe_calS (c : Cal X.prog X.w X.K X.mg X.base (L2.CX X.prog X.w) k x ps sp) (hr : Room j X.A) (tk : Takes X W) (ha : PA X (e :: es) t) (hg : Gl X x := by rfl) (hk : k ≤ j := by decide) (hdb : (x == ("__debug__" : Str)) = false := by decide)
    (he : starEach (e :: es) X.env = (false, eval e X.env) :: starEach es X.env := by rfl) (hpl : (backTo pos (starEach es X.env)).any (·.1) = false := by rfl) : PE X (.Call (.Name x p) (e :: es) [] pos) (tCallS sp (WE W) t) := by
  obtain ⟨f, fd, F, a, kp, b⟩ := c
  exact pe_callS F (hr.mono hk) hg a kp b (fun σ => passAt tk σ) ha hdb he hpl
theorem pe_calM {pl : Sem Bool} (he : PE X o ta) (c : CalM X.prog X.w X.K X.mg X.base CX0 k C m ps sp) (hr : Room j X.A) (ha : PA X (e :: es) t) (hk : k ≤ j := by decide)
    (hst : starEach (e :: es) X.env = (false, eval e X.env) :: starEach es X.env := by rfl) (hpl : (backTo pos (starEach es X.env)).any (·.1) = false := by rfl)
    (ht : eval (.Call (.Attribute o m apos) (e :: es) [] pos) X.env = (do
      let ov ← eval o X.env
      standAt apos.atName
      let (f, first) ← holding [ov] (getMethod ov m pl)
      callWith pos f first (backTo pos (starEach (e :: es) X.env)) (backToKw pos (keywordEach [] X.env))) := by rfl) :
    PE X (.Call (.Attribute o m apos) (e :: es) [] pos) (tMeth C m sp [] E0 ta t) := by
  obtain ⟨f, fd, F, cl, me, b⟩ := c
  exact pe_meth he cl me F (hr.mono hk) b .nil pass0 ha hst hpl ht
theorem pe_calM0 {pl : Sem Bool} (he : PE X o ta) (c : CalM X.prog X.w X.K X.mg X.base CX0 k C m ps sp) (hr : Room j X.A) (hk : k ≤ j := by decide)
    (ht : eval (.Call (.Attribute o m apos) [] [] pos) X.env = (do
      let ov ← eval o X.env
      standAt apos.atName
      let (f, first) ← holding [ov] (getMethod ov m pl)
      callWith pos f first (backTo pos (starEach [] X.env)) (backToKw pos (keywordEach [] X.env))) := by rfl) :
    PE X (.Call (.Attribute o m apos) [] [] pos) (tMeth C m sp [] E0 ta tNil) := by
  obtain ⟨f, fd, F, cl, me, b⟩ := c
  exact pe_meth0 he cl me F (hr.mono hk) b .nil pass0 ht
theorem pe_calK (c : CalK X.prog X.w X.K X.mg X.base CX0 k x C ps sp) (hr : Room j X.A) (ha : PA X (e :: es) t) (hg : Gl X x := by rfl) (hk : k + 1 ≤ j := by decide) (hdb : (x == ("__debug__" : Str)) = false := by decide)
    (he : starEach (e :: es) X.env = (false, eval e X.env) :: starEach es X.env := by rfl) (hpl : (backTo pos (starEach es X.env)).any (·.1) = false := by rfl) : PE X (.Call (.Name x p) (e :: es) [] pos) (tMake C sp [] E0 t) := by
  obtain ⟨f, fd, F, M, a, b⟩ := c
  exact pe_make M F (hr.mono hk) hg a b .nil pass0 ha hdb he hpl
theorem pe_calK0 (c : CalK X.prog X.w X.K X.mg X.base CX0 k x C ps sp) (hr : Room j X.A) (hg : Gl X x := by rfl) (hk : k + 1 ≤ j := by decide) (hdb : (x == ("__debug__" : Str)) = false := by decide) : PE X (.Call (.Name x p) [] [] pos) (tMake C sp [] E0 tNil) := by
  obtain ⟨f, fd, F, M, a, b⟩ := c
  exact pe_make0 M F (hr.mono hk) hg a b .nil pass0 hdb
/-- a constant of the module -/
theorem pe_gstr {z : Str} (h : ∃ u, X.mg x = some (.str z u)) (hg : Gl X x := by rfl) (hd : (x == ("__debug__" : Str)) = false := by decide) : PE X (.Name x pos) (tC (.str z)) := by
  obtain ⟨u, e⟩ := h
  exact pe_glob (v := .str z) hg e ⟨u, rfl⟩ hd
theorem pe_gint {z : Int} (h : ∃ u, X.mg x = some (.int z u)) (hg : Gl X x := by rfl) (hd : (x == ("__debug__" : Str)) = false := by decide) : PE X (.Name x pos) (tC (.int z)) := by
  obtain ⟨u, e⟩ := h
  exact pe_glob (v := .int z) hg e ⟨u, rfl⟩ hd
/-- a built-in class as a value -/
theorem pe_gty {T : String} (h : X.mg x = none) (hv : bootBuiltins x = some (.type T) := by decide +kernel) (hg : Gl X x := by rfl) (hn : x ≠ "__name__" := by decide) (hd : (x == ("__debug__" : Str)) = false := by decide) : PE X (.Name x pos) (tC (.ty T)) :=
  pe_bltn (v := .ty T) hg h hv rfl hn hd
end
end LW
namespace LW
open PySem PySem.Spec PyProof.Rows L2 GxR
/-- the end of a law's row: all that the head says is at hand -/
theorem walk_gnd {l : PySem.W.OpenLaw} {n k : Nat} {q : Program} {loose : List Str} {XP : (Str → Option Value) → Heap → Prop} {YP : World → Heap → Prop} {d : DefRec} {K : Params → PySem.W.Frag} {CX : World → CXT} {x : Str}
    (hn : l.most = some n) (hn2 : n ≤ sizeLine) (hdf : d.params.defaults = []) (hr : Room k callerA) (hY : ∀ (w : World) (h : Heap), YP w h → (K w.params).In h)
    (F : ∀ (w : World) (s0 : Shared) (mg mb : Str → Option Value) (fa : Addr) (h : Heap), PySem.W.Ground q loose [] XP w s0 mg mb h → YP w h → (K w.params).In h → mg d.name = some (.ref fa) → LamX.LawAtS l w (K w.params) (CX w) k n x mg fa h)
    (hCX : ∀ (w : World) (H : Hp) (s : Shared) (e : Value) (s' : Shared), CX w [] H s (fun _ _ _ => False) e s' → False) :
    PySem.W.WalkO q loose XP YP l.row.toRowW d [] (fun f vs => PySem.call f vs) := by
  refine Att.attach_callB hn hdf ?_
  intro w s0 s1 mg mb fa o pm cd doc a vs ns G Y ho hd hcd hmg hobj hints hlen hbits hg
  have KX := hY w _ Y
  obtain ⟨fd, cs, sp, hT, nT, C, hb, hsp, hF⟩ := F w s0 mg mb fa _ G Y KX hmg
  refine LamX.law_callTs KX G.T.g G.T.b G.T.builtins G.T.nolimit hg hT nT C G.T.bmain hobj hints (Nat.le_trans hlen hn2) hr hF hb ?_ ?_
  · intro H hH hS
    exact hsp H a ns hlen hbits hH hS
  · intro H e s'
    exact hCX w H s1 e s'
/-- a function of the module as the head leaves it -/
theorem def_at {K : PySem.W.Frag} {h : Heap} {mg : Str → Option Value} {x : Str} {st : Stmt} {ps : List Str} {f : Addr} {oc : Value} {od an : Option Addr} {sl : Array (Option Value)} {kV dc pm cd ct : Value}
    (X : K.In h) (G : h.Ns mainGlobals mg) (a : PySem.W.nsIn K mainGlobals x = some (some (.ref f)))
    (l : K.lookup f = some ⟨oc, od, .func (PySem.W.fnOf x x (defArgs st) (defBody st) (defScope st) .none kV dc pm an cd ct), sl⟩)
    (c : PySem.W.codeIn K cd x = true) (k : PySem.W.keepIn K (.ref f) = true)
    (b : ∀ (kV doc pm : Value) (an : Option Addr) (cdv ct : Value) (us : List Value), us.length = ps.length → bindArgs (PySem.W.fnOf x x (defArgs st) (defBody st) (defScope st) .none kV doc pm an cdv ct) ⟨us, []⟩ = pure (ps.zip us)) :
    DefAt K mg x st ps f (PySem.W.fnOf x x (defArgs st) (defBody st) (defScope st) .none kV dc pm an cd ct) :=
  ⟨fun_mk (st := st) l c k, PySem.W.mg_of X G a, (fun_mk (st := st) l c k).binds b⟩
end LW
namespace LW
open PySem PySem.Spec PyProof.Rows L2
/-- a comprehension over pairs, whose parts make nothing -/
theorem lc_pair {J : It} {n : Nat} {G : Hp → Prop} {Y : Nat → Hp → V → Hp → Prop} {K : PySem.W.Frag} (w : Walk J n G Y) {j1 j2 : Nat} {te : TE} {vs : List Nat} {σ : L2.St} {H1 : Hp} {D : Addr} {Qd : Hp → Prop} (f : Nat → V)
    (hn : n < 16000000) (hG : ∀ H, But D H1 H → G H) (hw : ∀ x y, wipe (((wipe σ vs).set j1 (some x)).set j2 (some y)) vs = wipe σ vs)
    (hs : ∀ i x H H', i < n → But D H1 H → Y i H x H' → ∃ t u v, x = .ref t ∧ H' = H ∧ SqT K H t [u, v] ∧ ∀ Q : VK, Q (f i) H → te (((wipe σ vs).set j1 (some u)).set j2 (some v)) H Q)
    (hd : Qd (upd H1 D (.lst ((List.range n).map f)))) :
    ∃ W : Nat → Nat → Hp → Prop, (∃ m, W 0 m (upd H1 D (.lst []))) ∧ ∀ i m H, W i m H →
      (J.stop i H ∧ Qd H) ∨ (J.go i H ∧ ∃ Nx : Hp → Prop, (∀ H', Nx H' → ∃ m', m' < m ∧ W (i + 1) m' H') ∧ ∀ x H', J.yld i H x H' → gTup K 2 (gCons (gName j1) (gCons (gName j2) gNil)) x (wipe σ vs) H' fun σ2 H2 => wipe σ2 vs = wipe σ vs ∧ tYes σ2 H2 fun b H3 =>
        if b = true then te σ2 H3 fun y H4 => ∃ acc, H4 D = some (.lst acc) ∧ acc.length < sizeLine ∧ Nx (upd H4 D (.lst (acc ++ [y]))) else Nx H3) := by
  refine lc_it w (fun i H => H = upd H1 D (.lst ((List.range i).map f))) rfl (fun i H _ e => hG H (by rw [e]; exact But.upd)) ?_ (fun H e => by rw [e]; exact hd)
  rintro i x H H' hi e hy
  have b1 : But D H1 H := by rw [e]; exact But.upd
  obtain ⟨t, u, v, rfl, e2, hT, he⟩ := hs i x H H' hi b1 hy
  subst e2
  have hD : H' D = some (.lst ((List.range i).map f)) := by rw [e, upd_same]
  refine ⟨t, [u, v], rfl, hT, rfl, u, [v], rfl, v, [], rfl, rfl, hw u v, tyes (he _ ⟨_, hD, ?_, ?_⟩)⟩
  · rw [List.length_map, List.length_range]
    exact Nat.lt_trans hi (Nat.lt_trans hn (by decide))
  · rw [List.range_succ, List.map_append, e, upd_upd]
    rfl
end LW
namespace LW
open PySem PySem.Spec PyProof.Rows L2
/-- isinstance(e, c), e the exception that the suite holds, with its dict -/
def rIsD (K : PySem.W.Frag) (D a : Addr) (cls : Value) (d : Option Addr) : List V → Hp → VK → Prop := fun xs H Q => cls = .ref D ∧ ∃ (dd : Addr) (fs : List (Str × V)), d = some dd ∧ H dd = some (.xd fs) ∧
  ∃ (c : V) (cv : Value) (b : Bool), xs = [.ref a, c] ∧ (∀ u, RelV c u → u = cv) ∧ PySem.W.kitOne K (.ref D) cv = some b ∧ Q (.bl b) H
theorem call_isD {X : Cx} {a D : Addr} {oe : Obj} {cls : Value} {d : Option Addr} {pn : List (Addr × Obj)} (C : ExcC X.K D) (hz : Zc cls d oe) (hf : ∃ vs, oe.data = .fields vs) : CallR (X.suite a ((a, oe) :: pn)) (.builtin "isinstance") (rIsD X.K D a cls d) := by
  intro pins s σ H xs us Q I r h
  obtain ⟨rfl, dd, fs, rfl, hdd, c, cv, b, rfl, hcv, e, q⟩ := h
  obtain ⟨cd, hcd, _⟩ := PySem.W.any_some C.hd
  have isc : (PySem.W.clsIn X.K D).isSome = true := by rw [hcd]; rfl
  cases r with
  | cons r1 r2 =>
    cases r2 with
    | cons r3 r4 =>
      cases r4
      cases r1
      have ec := hcv _ r3
      subst ec
      obtain ⟨here, _⟩ := I.pin (a, oe) (List.mem_append_left _ List.mem_cons_self)
      obtain ⟨vs, hv⟩ := hf
      have at_d : ObjOk X.prog X.w H s.heap dd (.xd fs) := I.hok dd _ hdd
      obtain ⟨mA, hns, _⟩ := at_d
      obtain ⟨od, ho, _⟩ := lookIn_ns hns
      have inst : PySem.W.InstAt s.heap a oe D (some od) := by
        refine ⟨here, hz.1, ?_, ?_⟩
        · unfold PySem.W.notCls
          rw [hv]
        · rw [hz.2]
          exact ho
      exact PySem.W.kia_one (PySem.W.kitx_exc isc C.hg C.hk C.hs C.ha C.hn C.ht C.hm) I.kIn inst e (fun z => nomatch z) fun tk => ⟨.bl b, H, I.kept (t' := tk) fun _ _ z => z, rfl, q⟩
end LW
namespace LW
open PySem PySem.Spec PyProof.Rows L2 GxR
open TL (joinL tl tl_join join_eq spl spl_hit spl_miss spl_nil pre map_tl_inj split_spl kind_ok tl_append ext_tl)
/-! ### lines -/
def nl : Str := Str.ofString "\n"
def sp : Str := Str.ofString " "
theorem tl_nl : tl nl = [10] := by decide +kernel
theorem tl_sp : tl sp = [32] := by decide +kernel
theorem kind_nl : nl.cps.all (· < 256) = true := by decide +kernel
theorem kind_sp : sp.cps.all (· < 256) = true := by decide +kernel
theorem pre1 (c x : Nat) (r : List Nat) : pre [c] (x :: r) = decide (x = c) := by
  show (([x] : List Nat) == [c]) = decide (x = c)
  by_cases h : x = c
  · subst h; simp
  · simp [h]
theorem spl_ne (S : List Nat) : ∀ (l : List Nat) (k : Nat) (acc : List Nat), spl S k acc l ≠ []
  | [], k, acc => by rw [spl_nil]; simp
  | c :: r, 0, acc => by
    show (if pre S (c :: r) = true then acc :: spl S (S.length - 1) [] r else spl S 0 (acc ++ [c]) r) ≠ []
    split
    · simp
    · exact spl_ne S r 0 _
  | c :: r, k + 1, acc => spl_ne S r k acc
theorem spl_len (c : Nat) : ∀ (l acc : List Nat), (spl [c] 0 acc l).length ≤ l.length + 1
  | [], acc => by rw [spl_nil]; simp
  | x :: r, acc => by
    by_cases h : pre [c] (x :: r) = true
    · rw [spl_hit h]
      have := spl_len c r []
      simp only [List.length_cons, List.length_nil] at this ⊢
      show (spl [c] 0 [] r).length + 1 ≤ _
      omega
    · rw [spl_miss (eq_false_of_ne_true h)]
      have := spl_len c r (acc ++ [x])
      simp only [List.length_cons]
      omega
theorem spl_part (c : Nat) : ∀ (l acc : List Nat), ∀ p ∈ spl [c] 0 acc l, p.length ≤ acc.length + l.length
  | [], acc, p, h => by
    rw [spl_nil] at h
    rw [List.mem_singleton.mp h]
    simp
  | x :: r, acc, p, h => by
    by_cases e : pre [c] (x :: r) = true
    · rw [spl_hit e] at h
      rcases List.mem_cons.mp h with h | h
      · rw [h]; omega
      · have := spl_part c r [] p h
        simp only [List.length_cons, List.length_nil] at this ⊢
        omega
    · rw [spl_miss (eq_false_of_ne_true e)] at h
      have := spl_part c r (acc ++ [x]) p h
      simp only [List.length_append, List.length_cons, List.length_nil] at this ⊢
      omega
/-- without the sign: one part -/
theorem spl_no (c : Nat) : ∀ (l acc : List Nat), c ∉ l → spl [c] 0 acc l = [acc ++ l]
  | [], acc, _ => by rw [spl_nil]; simp
  | x :: r, acc, h => by
    have hx : pre [c] (x :: r) = false := by rw [pre1]; exact decide_eq_false fun e => h (by rw [e]; exact List.mem_cons_self)
    rw [spl_miss hx, spl_no c r (acc ++ [x]) fun m => h (List.mem_cons_of_mem _ m)]
    simp
/-- at the first sign -/
theorem spl_at1 (c : Nat) : ∀ (a acc b : List Nat), c ∉ a → spl [c] 0 acc (a ++ c :: b) = (acc ++ a) :: spl [c] 0 [] b
  | [], acc, b, _ => by
    have hx : pre [c] (c :: b) = true := by rw [pre1]; exact decide_eq_true rfl
    rw [List.nil_append, spl_hit hx, List.append_nil]
    rfl
  | x :: r, acc, b, h => by
    have hx : pre [c] (x :: (r ++ c :: b)) = false := by rw [pre1]; exact decide_eq_false fun e => h (by rw [e]; exact List.mem_cons_self)
    rw [List.cons_append, spl_miss hx, spl_at1 c r (acc ++ [x]) b fun m => h (List.mem_cons_of_mem _ m)]
    simp
def lns (t : Str) : List Str := Txt.split t nl
def wds (l : Str) : List Str := Txt.split l sp
theorem lns_tl (t : Str) : (lns t).map tl = spl [10] 0 [] (tl t) := by
  unfold lns
  rw [split_spl _ nl (by rw [tl_nl]; simp) (kind_ok kind_nl), tl_nl]
theorem wds_tl (t : Str) : (wds t).map tl = spl [32] 0 [] (tl t) := by
  unfold wds
  rw [split_spl _ sp (by rw [tl_sp]; simp) (kind_ok kind_sp), tl_sp]
theorem lns_ne (t : Str) : lns t ≠ [] := by
  intro h
  have := lns_tl t
  rw [h] at this
  exact spl_ne _ _ _ _ this.symm
theorem wds_ne (t : Str) : wds t ≠ [] := by
  intro h
  have := wds_tl t
  rw [h] at this
  exact spl_ne _ _ _ _ this.symm
theorem lns_len (t : Str) : (lns t).length ≤ t.length + 1 := by
  have h := congrArg List.length (lns_tl t)
  rw [List.length_map] at h
  have := spl_len 10 (tl t) []
  rw [h, TL.len_tl]
  exact this
theorem lns_mem {t l : Str} (h : l ∈ lns t) : l.length ≤ t.length := by
  have m : tl l ∈ spl [10] 0 [] (tl t) := by rw [← lns_tl]; exact List.mem_map_of_mem h
  have := spl_part 10 (tl t) [] _ m
  rw [TL.len_tl, TL.len_tl]
  simpa using this
theorem wds_mem {t l : Str} (h : l ∈ wds t) : l.length ≤ t.length := by
  have m : tl l ∈ spl [32] 0 [] (tl t) := by rw [← wds_tl]; exact List.mem_map_of_mem h
  have := spl_part 32 (tl t) [] _ m
  rw [TL.len_tl, TL.len_tl]
  simpa using this
/-- a line as a name and an address -/
def nam (l : Str) : Str := (Txt.partition l sp).1
def adr (l : Str) : Str := (Txt.partition l sp).2.2
theorem split_at (x : List Nat) (h : 32 ∈ x) : ∃ a b, x = a ++ 32 :: b ∧ 32 ∉ a := by
  induction x with
  | nil => simp at h
  | cons c r ih =>
    by_cases e : c = 32
    · exact ⟨[], r, by rw [e]; rfl, by simp⟩
    · have hr : 32 ∈ r := by
        rcases List.mem_cons.mp h with h | h
        · exact absurd h.symm e
        · exact h
      obtain ⟨a, b, h1, h2⟩ := ih hr
      exact ⟨c :: a, b, by rw [h1]; rfl, fun m => by
        rcases List.mem_cons.mp m with m | m
        · exact e m.symm
        · exact h2 m⟩
theorem addr_no {t : Str} (h : isAddr t = true) : 32 ∉ tl t ∧ 10 ∉ tl t ∧ t.length = 16 := by
  unfold isAddr at h
  rw [Bool.and_eq_true] at h
  have key : ∀ c ∈ tl t, c ∈ hexDigits := fun c hc => of_decide_eq_true (List.all_eq_true.mp h.2 c hc)
  exact ⟨fun m => absurd (key _ m) (by decide), fun m => absurd (key _ m) (by decide), of_decide_eq_true h.1⟩
theorem addr_empty : isAddr Str.empty = false := by decide +kernel
/-- two words are the name and the address; otherwise the address is none -/
theorem words_of (l : Str) : (wds l = [nam l, adr l]) ∨ ((wds l).length ≠ 2 ∧ isAddr (adr l) = false) := by
  by_cases h : 32 ∈ tl l
  · obtain ⟨a, b, e, ha⟩ := split_at _ h
    have el : l = (⟨a.toArray⟩ : Str) ++ sp ++ (⟨b.toArray⟩ : Str) := by
      apply ext_tl
      rw [tl_append, tl_append, tl_sp]
      show _ = (a ++ [32]) ++ b
      rw [e]
      simp
    have ep : Txt.partition l sp = (⟨a.toArray⟩, sp, ⟨b.toArray⟩) := by
      rw [el]
      exact TL.partition_app tl_sp (by show 32 ∉ a; exact ha)
    have en : nam l = ⟨a.toArray⟩ := by unfold nam; rw [ep]
    have ea : adr l = ⟨b.toArray⟩ := by unfold adr; rw [ep]
    have ew := wds_tl l
    rw [e, spl_at1 32 a [] b ha] at ew
    by_cases hb : 32 ∈ b
    · right
      obtain ⟨a2, b2, e2, ha2⟩ := split_at _ hb
      constructor
      · intro hl
        have hl2 := congrArg List.length ew
        rw [List.length_map, hl, e2, spl_at1 32 a2 [] b2 ha2] at hl2
        simp only [List.length_cons] at hl2
        have := spl_ne [32] b2 0 []
        cases hs : spl [32] 0 [] b2 with
        | nil => exact this hs
        | cons _ _ => rw [hs] at hl2; simp at hl2
      · rw [ea]
        cases hh : isAddr (⟨b.toArray⟩ : Str) with
        | false => rfl
        | true => exact absurd (show 32 ∈ tl (⟨b.toArray⟩ : Str) from hb) (addr_no hh).1
    · left
      rw [spl_no 32 b [] hb] at ew
      refine map_tl_inj ?_
      rw [ew, en, ea]
      simp [tl]
  · right
    have ep : Txt.partition l sp = (l, Str.empty, Str.empty) := TL.partition_none tl_sp h
    have ew := wds_tl l
    rw [spl_no 32 _ [] h] at ew
    refine ⟨fun hl => ?_, ?_⟩
    · have := congrArg List.length ew
      rw [List.length_map, hl] at this
      simp at this
    · unfold adr
      rw [ep]
      exact addr_empty
/-! ### faults -/
def letters : List Nat := [97, 98, 99, 100, 101, 102, 103, 104, 105, 106, 107, 108, 109, 110, 111, 112, 113, 114, 115, 116, 117, 118, 119, 120, 121, 122]
theorem letters_eq : (Str.ofString "abcdefghijklmnopqrstuvwxyz").cps.toList = letters := by decide +kernel
def isPlat (t : Str) : Bool := (decide (1 ≤ t.length) && decide (t.length ≤ 10)) && t.cps.toList.all fun c => decide (c ∈ letters)
def word (b : Bool) : Str := if b then "bundle" else "image"
def mid (ls : List Str) : List Str := (ls.drop 1).dropLast
theorem mid_len (ls : List Str) : (mid ls).length = ls.length - 2 := by
  unfold mid
  rw [List.length_dropLast, List.length_drop]
  omega
/-- line i (from 0) of those between is not as it must be -/
def bad (b : Bool) (ms : List Str) (i : Nat) : Bool :=
  if b then decide (nam (ms.getD i "") ∈ (ms.take i).map nam) || !isPlat (nam (ms.getD i "")) || !isAddr (adr (ms.getD i "")) else !isAddr (ms.getD i "")
def behN (w : Str) (ls : List Str) : Option Nat :=
  if ls.head? ≠ some w then some 0 else if ls.getLast? ≠ some ("" : Str) then some (ls.length - 1) else if 52 < ls.length then some 51 else none
def faultN (b : Bool) (ls : List Str) : Option Nat :=
  match behN (word b) ls with
  | some k => some k
  | none => if b = true ∧ ls.length = 2 then some 1 else ((List.range (ls.length - 2)).find? (bad b (mid ls))).map (· + 1)
theorem find_hit {p : Nat → Bool} {n i : Nat} (hi : i < n) (h1 : ∀ j, j < i → p j = false) (h2 : p i = true) : (List.range n).find? p = some i := by
  rw [List.find?_range_eq_some]
  exact ⟨h2, List.mem_range.mpr hi, fun j hj => by rw [h1 j hj]; rfl⟩
theorem find_miss {p : Nat → Bool} {n : Nat} (h1 : ∀ j, j < n → p j = false) : (List.range n).find? p = none := by
  rw [List.find?_eq_none]
  intro j hj
  rw [h1 j (List.mem_range.mp hj)]
  exact Bool.false_ne_true
end LW
namespace LW
open PySem PySem.Spec PyProof.Rows L2 GxR
open TL (joinL tl tl_join join_eq tl_append ext_tl)
theorem tl_empty : tl (Str.ofString "") = [] := by decide +kernel
theorem joinL_nil : ∀ l : List (List Nat), joinL [] l = l.flatten
  | [] => rfl
  | [p] => by simp [joinL]
  | p :: q :: r => by
    show p ++ ([] ++ joinL [] (q :: r)) = _
    rw [joinL_nil (q :: r)]
    simp
theorem joinL_end (c : Nat) : ∀ l : List (List Nat), joinL [c] (l ++ [[]]) = (l.map (· ++ [c])).flatten
  | [] => by simp [joinL]
  | [p] => by
    show p ++ ([c] ++ joinL [c] [[]]) = _
    simp [joinL]
  | p :: q :: r => by
    show p ++ ([c] ++ joinL [c] ((q :: r) ++ [[]])) = _
    rw [joinL_end c (q :: r)]
    simp
/-- one line of a text -/
def lin (l : Str) : Str := Str.empty ++ l ++ nl
theorem tl_lin (l : Str) : tl (lin l) = tl l ++ [10] := by
  unfold lin
  rw [tl_append, tl_append, tl_nl]
  rfl
theorem lin_len (l : Str) : (lin l).length = l.length + 1 := by
  rw [TL.len_tl, TL.len_tl, tl_lin]
  simp
def textOf (ls : List Str) : Str := Txt.join (Str.ofString "") (ls.map lin)
theorem textOf_tl (ls : List Str) : tl (textOf ls) = ((ls.map tl).map (· ++ [10])).flatten := by
  unfold textOf
  rw [join_eq, tl_join, tl_empty, joinL_nil, List.map_map, List.map_map]
  congr 1
  apply List.map_congr_left
  intro l _
  exact tl_lin l
theorem textOf_nl (ls : List Str) : textOf ls = Txt.join nl (ls ++ [("" : Str)]) := by
  apply ext_tl
  rw [textOf_tl, join_eq, tl_join, tl_nl, List.map_append, ← joinL_end]
  rfl
theorem lns_textOf {ls : List Str} (h : ∀ l ∈ ls, 10 ∉ tl l) : lns (textOf ls) = ls ++ [("" : Str)] := by
  unfold lns
  rw [textOf_nl]
  refine TL.split_join (s := 10) (S := []) tl_nl kind_nl (by simp) fun p hp => ?_
  rcases List.mem_append.mp hp with hp | hp
  · exact h p hp
  · rw [List.mem_singleton.mp hp]
    decide +kernel
theorem textOf_len : ∀ ls : List Str, (textOf ls).length = (ls.map fun l => l.length + 1).sum := by
  intro ls
  rw [TL.len_tl, textOf_tl, List.length_flatten, List.map_map, List.map_map]
  congr 1
  apply List.map_congr_left
  intro l _
  simp [TL.len_tl]
theorem sum_le {α : Type} (f : α → Nat) (m : Nat) : ∀ l : List α, (∀ x ∈ l, f x ≤ m) → (l.map f).sum ≤ l.length * m
  | [], _ => by simp
  | x :: r, h => by
    have := sum_le f m r fun y hy => h y (List.mem_cons_of_mem _ hy)
    have h1 := h x List.mem_cons_self
    simp only [List.map_cons, List.sum_cons, List.length_cons, Nat.succ_mul]
    omega
theorem mid_text (w : Str) (ls : List Str) : mid (w :: ls ++ [("" : Str)]) = ls := by
  unfold mid
  simp
theorem beh_text (w : Str) (ls : List Str) : behN w (w :: ls ++ [("" : Str)]) = if 50 < ls.length then some 51 else none := by
  unfold behN
  have e1 : (w :: ls ++ [("" : Str)]).head? = some w := rfl
  have e2 : (w :: ls ++ [("" : Str)]).getLast? = some ("" : Str) := by rw [List.getLast?_append]; rfl
  rw [if_neg (by rw [e1]; simp), if_neg (by rw [e2]; simp)]
  have e3 : (w :: ls ++ [("" : Str)]).length = ls.length + 2 := by simp
  rw [e3]
  by_cases h : 50 < ls.length
  · rw [if_pos h, if_pos (by omega)]
  · rw [if_neg h, if_neg (by omega)]
/-- the text of an image -/
theorem fault_image {ls : List Str} (h : ∀ l ∈ ls, isAddr l = true) (hl : ls.length ≤ 51) : faultN false (word false :: ls ++ [("" : Str)]) = if ls.length = 51 then some 51 else none := by
  unfold faultN
  rw [beh_text, mid_text]
  by_cases e : 50 < ls.length
  · rw [if_pos e]
    show some 51 = _
    rw [if_pos (by omega)]
  · rw [if_neg e, if_neg (show ¬ ls.length = 51 by omega)]
    have e3 : (word false :: ls ++ [("" : Str)]).length - 2 = ls.length := by simp
    rw [e3]
    simp only [Bool.false_eq_true, false_and, if_false]
    rw [find_miss (p := bad false ls) fun j hj => ?_]
    · rfl
    · have hg : ls.getD j "" = ls[j] := by rw [List.getD_eq_getElem?_getD, List.getElem?_eq_getElem hj]; rfl
      show (!isAddr (ls.getD j "")) = false
      rw [hg, h _ (List.getElem_mem hj)]
      rfl
theorem plat_no {t : Str} (h : isPlat t = true) : 32 ∉ tl t ∧ 10 ∉ tl t ∧ 1 ≤ t.length ∧ t.length ≤ 10 := by
  unfold isPlat at h
  rw [Bool.and_eq_true, Bool.and_eq_true] at h
  have key : ∀ c ∈ tl t, c ∈ letters := fun c hc => of_decide_eq_true (List.all_eq_true.mp h.2 c hc)
  exact ⟨fun m => absurd (key _ m) (by decide), fun m => absurd (key _ m) (by decide), of_decide_eq_true h.1.1, of_decide_eq_true h.1.2⟩
/-- a line of a bundle -/
def ent (p : Str × Str) : Str := Str.empty ++ p.1 ++ sp ++ p.2
theorem ent_tl (p : Str × Str) : tl (ent p) = tl p.1 ++ 32 :: tl p.2 := by
  unfold ent
  rw [tl_append, tl_append, tl_append, tl_sp]
  show ([] ++ tl p.1 ++ [32]) ++ tl p.2 = _
  simp
theorem ent_part {p : Str × Str} (h : 32 ∉ tl p.1) : nam (ent p) = p.1 ∧ adr (ent p) = p.2 := by
  have e : ent p = p.1 ++ sp ++ p.2 := by
    apply ext_tl
    rw [ent_tl, tl_append, tl_append, tl_sp]
    simp
  have ep : Txt.partition (ent p) sp = (p.1, sp, p.2) := by
    rw [e]
    exact TL.partition_app tl_sp h
  unfold nam adr
  rw [ep]
  exact ⟨rfl, rfl⟩
theorem fault_bundle {es : List (Str × Str)} (h : ∀ p ∈ es, isPlat p.1 = true ∧ isAddr p.2 = true) (hd : (es.map (·.1)).Nodup) (h1 : 1 ≤ es.length) (hl : es.length ≤ 50) : faultN true (word true :: es.map ent ++ [("" : Str)]) = none := by
  unfold faultN
  rw [beh_text, mid_text, if_neg (show ¬ 50 < (es.map ent).length by rw [List.length_map]; omega)]
  have e3 : (word true :: es.map ent ++ [("" : Str)]).length = es.length + 2 := by simp
  rw [e3]
  show (if true = true ∧ es.length + 2 = 2 then some 1 else _) = _
  rw [if_neg (by omega), find_miss (p := bad true (es.map ent)) fun j hj => ?_]
  · rfl
  · have hj' : j < es.length := by omega
    have hg : (es.map ent).getD j "" = ent es[j] := by rw [List.getD_eq_getElem?_getD, List.getElem?_map, List.getElem?_eq_getElem hj']; rfl
    have hm := h _ (List.getElem_mem hj')
    have pt := ent_part (p := es[j]) (plat_no hm.1).1
    unfold bad
    rw [if_pos rfl, hg, pt.1, pt.2, hm.1, hm.2]
    have nm : ∀ q ∈ es, nam (ent q) = q.1 := fun q hq => (ent_part (plat_no (h q hq).1).1).1
    have e4 : ((es.map ent).take j).map nam = (es.map (·.1)).take j := by
      rw [List.map_take, List.map_map]
      congr 1
      exact List.map_congr_left nm
    rw [e4]
    have e5 : es[j].1 ∉ (es.map (·.1)).take j := by
      intro m
      obtain ⟨i, hi, e⟩ := List.getElem_of_mem m
      rw [List.length_take, List.length_map] at hi
      rw [List.getElem_take] at e
      have : (es.map (·.1))[i]'(by rw [List.length_map]; omega) = (es.map (·.1))[j]'(by rw [List.length_map]; omega) := by rw [e, List.getElem_map]
      have := (List.getElem_inj hd).mp this
      omega
    rw [decide_eq_false e5]
    rfl
end LW
/-! Sets of texts: made, added to, sorted. -/
namespace LW
open PySem PySem.Spec PyProof.Rows L2
/-- the text that a row of a set's table holds -/
def rowTxt (e : Int × Value) : Str := match e.2 with | .str x _ => x | _ => Str.empty
/-- a row that holds a text under its own hash -/
def RowT (P : Program) (w : World) (e : Int × Value) : Prop := ∃ x tk, e.2 = Value.str x tk ∧ e.1 = (PySem.strKind P w).hash x
/-- the set of texts at a: S tells the members, n how many; its table can be walked -/
def SetT (P : Program) (w : World) (h : Heap) (a : Addr) (S : Str → Bool) (n : Nat) : Prop :=
  ∃ o rows ep t, h.get? a = some o ∧ o.ExactSet ∧ o.data = .set rows ep t ∧ (∀ e ∈ rows.toList, RowT P w e) ∧ (rows.toList.map rowTxt).Nodup ∧ (∀ k, S k = true ↔ k ∈ rows.toList.map rowTxt) ∧
    rows.size < scanBound ∧ t.fits rows.size = true ∧ rows.size = n ∧ Ris t.place.toList ∧ (w.params.followText "set-order" = true ∨ t.led = true)
section
variable {P : Program} {w : World} {h h' : Heap} {a : Addr} {S : Str → Bool} {n : Nat}
theorem SetT.keep (R : SetT P w h a S n) (k : ∀ o, h.get? a = some o → h'.get? a = some o) : SetT P w h' a S n := let ⟨o, rows, ep, t, ho, r⟩ := R; ⟨o, rows, ep, t, k o ho, r⟩
theorem rowT_elems {l : List (Int × Value)} (g : ∀ e ∈ l, RowT P w e) : ElemsOf (PySem.strKind P w) l := fun e he => by
  have ⟨x, tk, q1, q2⟩ := g e he
  refine ⟨⟨x, ?_, q2⟩, ?_⟩
  · rw [q1]; exact strKind_is P w x tk
  · rw [q1] <;> rfl
theorem rowT_is {e : Int × Value} (g : RowT P w e) (k : Str) : (PySem.strKind P w).is k e.2 = true ↔ rowTxt e = k := by
  obtain ⟨x, tk, q1, _⟩ := g
  have e1 : rowTxt e = x := by unfold rowTxt; rw [q1]
  rw [e1, q1]
  constructor
  · intro q
    exact ((PySem.strKind P w).inj _ _ _ q (strKind_is P w x tk)).symm
  · rintro rfl
    exact strKind_is P w x tk
theorem rowT_mem {l : List (Int × Value)} (g : ∀ e ∈ l, RowT P w e) (k : Str) : k ∈ l.map rowTxt ↔ ∃ e ∈ l, (PySem.strKind P w).is k e.2 = true :=
  ⟨fun m => let ⟨e, he, q⟩ := List.mem_map.mp m; ⟨e, he, (rowT_is (g e he) k).2 q⟩, fun ⟨e, he, q⟩ => List.mem_map.mpr ⟨e, he, (rowT_is (g e he) k).1 q⟩⟩
theorem SetT.of (R : SetT P w h a S n) : h.SetOf (PySem.strKind P w) a S n := by
  obtain ⟨o, rows, ep, t, h1, h2, h3, g, _, m, b, f, z, _⟩ := R
  exact ⟨o, rows, ep, t, h1, h2, h3, rowT_elems g, fun k => (m k).trans (rowT_mem g k), b, f, z⟩
theorem setT_fresh (P : Program) (w : World) {h : Heap} {b : Addr} (e : h.get? b = some { cls := .type "set", dict := none, data := .set #[] 0 (.fresh 0 0 (!w.params.followText "set-order")) }) : SetT P w h b (fun _ => false) 0 := by
  refine ⟨_, #[], 0, _, e, ⟨rfl, rfl, rfl⟩, rfl, ?_, ?_, ?_, by decide, by rfl, rfl, List.Pairwise.nil, ?_⟩
  · intro e he; simp at he
  · simp
  · intro k; simp
  · show _ ∨ (!w.params.followText "set-order") = true
    cases w.params.followText "set-order" <;> simp
end
section
variable {P : Program} {w : World} {A : Around} {E : Value → Shared → Prop} {s : Shared} {a : Addr} {S : Str → Bool} {n : Nat}
theorem laidT {h : Heap} {a : Addr} {o : Obj} {r1 r2 : Array (Int × Value)} {ep : Nat} {t1 t2 : SetTable} (ho : h.get? a = some o) (hd : o.data = .set r1 ep t1) :
    (h.update a (Obj.putSet r2 t2)).get? a = some { o with data := .set r2 (ep + 1) t2 } := store_at ho hd
theorem giveWay {b : Bool} {s1 : Shared} {Q : Unit → Shared → Prop} (q : Q () s1) : wpAny (model P w) A (match b with | true => rule "set.scan.the-table-gave-way" | false => pure ()) Q E s1 := by
  cases b
  · exact wpAny_pure q
  · exact wpAny_rule q
/-- what follows the new row: the table is stored, and laid anew where it is too full -/
theorem setT_tail {g : Bool → Sem Unit} (hg : ∀ (b : Bool) (s1 : Shared) (Q' : Unit → Shared → Prop), Q' () s1 → wpAny (model P w) A (g b) Q' E s1) {o : Obj} {rows : Array (Int × Value)} {ep : Nat} {t : SetTable}
    (ho : s.heap.get? a = some o) (hx : o.ExactSet) (hd : o.data = .set rows ep t) {r1 : Array (Int × Value)} {t2 : SetTable} {S' : Str → Bool}
    (new : ∀ {h'' : Heap} {o' : Obj} {r2 : Array (Int × Value)} {e2 : Nat} {t3 : SetTable}, h''.get? a = some o' → o'.ExactSet → o'.data = .set r2 e2 t3 → r2.toList.Perm r1.toList → t3.fits r2.size = true → Ris t3.place.toList → t3.led = t2.led → SetT P w h'' a S' r1.size)
    (hb : r1.size < scanBound) (hf : t2.fits r1.size = true) (hr : Ris t2.place.toList) {wasDummy : Bool} {R : Option Bool → Shared → Prop}
    (hR : ∀ h'', Heap.SameBut a s.heap h'' → SetT P w h'' a S' r1.size → R (some true) { s with heap := h'' }) :
    wpAny (model P w) A (do
        storeSet a r1 t2
        if (!wasDummy && t2.tooFull) = true then do
            g (relayAll t2 r1 (SetTable.grown r1.size)).2.2
            storeSet a (relayAll t2 r1 (SetTable.grown r1.size)).1 (relayAll t2 r1 (SetTable.grown r1.size)).2.1
            pure (some true)
          else pure (some true)) R E s := by
  have ho1 := laidT (r2 := r1) (t2 := t2) ho hd
  have sb := Heap.SameBut.update s.heap a (Obj.putSet r1 t2)
  refine wpAny_bind (wpAny_storeSet_of ho hd ?_ (fits_of_scanBound hb))
  by_cases full : (!wasDummy && t2.tooFull) = true
  · rw [if_pos full]
    have p := relayAll_perm t2 r1 (SetTable.grown r1.size)
    have q1 := relayAll_fits t2 r1 (SetTable.grown r1.size)
    have q2 := relayAll_ris t2 r1 (SetTable.grown r1.size)
    have q3 := relayAll_led t2 r1 (SetTable.grown r1.size)
    revert p q1 q2 q3
    generalize relayAll t2 r1 (SetTable.grown r1.size) = Z
    obtain ⟨r2, t3, gv⟩ := Z
    intro p q1 q2 q3
    have z2 : r2.size = r1.size := by have := p.length_eq; simpa using this
    refine wpAny_bind (hg _ _ _ (wpAny_bind (wpAny_storeSet_of ho1 rfl ?_ (fits_of_scanBound (by show r2.size < scanBound; rw [z2]; exact hb)))))
    exact wpAny_pure (hR _ (sb.trans (Heap.SameBut.update _ a _)) (new (laidT ho1 rfl) hx rfl p q1 q2 q3))
  · rw [if_neg full]
    exact wpAny_pure (hR _ sb (new ho1 hx rfl (List.Perm.refl _) hf hr rfl))
/-- a text that is not there comes in, or one that is there stays -/
theorem setT_put {k : Str} {tk : Tok} {Q : Bool → Shared → Prop} (R : SetT P w s.heap a S n) (room : n + 1 < scanBound)
    (hQ : ∀ h'', Heap.SameBut a s.heap h'' → SetT P w h'' a (fun j => S j || decide (j = k)) (if S k = true then n else n + 1) → Q (!S k) { s with heap := h'' }) :
    wpAny (model P w) A (setAddHashed a (.str k tk) ((PySem.strKind P w).hash k)) Q E s := by
  obtain ⟨o, rows, ep, t, ho, hx, hd, g, nd, m, b, f, z, ris, led⟩ := R
  have kk : (PySem.strKind P w).is k (.str k tk) = true := strKind_is P w k tk
  have sc : (Value.str k tk).scannable = true := rfl
  have el := rowT_elems (P := P) (w := w) g
  unfold setAddHashed setAddHashedIn
  refine wpAny_holding (wpAny_bind (wpAny_setState_of ho hd f ?_))
  dsimp only
  rw [byScan_of sc b el]
  simp only [↓reduceIte]
  unfold setAddByScan
  refine wpAny_bind (wpAny_bind (wpAny_rule (wpAny_bind (wpAny_setScan_of kk ho hd f el ?_))))
  cases fi : List.findIdx? (fun e => (PySem.strKind P w).is k e.2) rows.toList with
  | some j =>
    dsimp only
    obtain ⟨hj, pj, _⟩ := List.findIdx?_eq_some_iff_getElem.mp fi
    have there : S k = true := (m k).2 ((rowT_mem g k).2 ⟨_, List.getElem_mem hj, pj⟩)
    have fin := hQ s.heap (Heap.SameBut.refl a s.heap) ⟨o, rows, ep, t, ho, hx, hd, g, nd, fun i => ?_, b, f, by rw [if_pos there]; exact z, ris, led⟩
    · rw [there] at fin
      exact wpAny_pure (wpAny_pure fin)
    · rw [Bool.or_eq_true, decide_eq_true_eq, ← m i]
      constructor
      · rintro (q | q)
        · exact q
        · rw [q]; exact there
      · exact .inl
  | none =>
    dsimp only
    have out : k ∉ rows.toList.map rowTxt := fun q => by
      obtain ⟨e, he, q1⟩ := (rowT_mem (P := P) (w := w) g k).1 q
      exact absurd q1 (by rw [List.findIdx?_eq_none_iff.mp fi e he]; exact Bool.false_ne_true)
    have gone : S k = false := Bool.eq_false_iff.mpr fun q => out ((m k).1 q)
    have p0 := layNew_perm t rows ((PySem.strKind P w).hash k) (.str k tk)
    have f0 := layNew_fits t rows ((PySem.strKind P w).hash k) (.str k tk)
    have r0 := layNew_ris t rows ((PySem.strKind P w).hash k) (.str k tk) ris
    have l0 := layNew_led t rows ((PySem.strKind P w).hash k) (.str k tk)
    revert p0 f0 r0 l0
    generalize layNew t rows ((PySem.strKind P w).hash k) (.str k tk) = Z
    obtain ⟨r1, t1, dum, gv⟩ := Z
    intro p0 f0 r0 l0
    dsimp only at p0 f0 r0 l0 ⊢
    have p1 : r1.toList.Perm (((PySem.strKind P w).hash k, Value.str k tk) :: rows.toList) := by
      refine p0.trans ?_
      rw [Array.toList_push]
      exact List.perm_append_singleton _ _
    have p2 : (r1.toList.map rowTxt).Perm (k :: rows.toList.map rowTxt) := p1.map rowTxt
    have z1 : r1.size = n + 1 := by
      have := p1.length_eq
      simp only [Array.length_toList, List.length_cons] at this
      omega
    have new : ∀ {tt : SetTable}, tt.led = t1.led → ∀ {h'' : Heap} {o' : Obj} {r2 : Array (Int × Value)} {e2 : Nat} {t3 : SetTable}, h''.get? a = some o' → o'.ExactSet → o'.data = .set r2 e2 t3 → r2.toList.Perm r1.toList → t3.fits r2.size = true → Ris t3.place.toList → t3.led = tt.led →
        SetT P w h'' a (fun j => S j || decide (j = k)) r1.size := fun {tt} hl {h'' o' r2 e2 t3} u1 u2 u3 u4 u5 u6 u7 => by
      have v2 := u4.map rowTxt
      have sz : r2.size = r1.size := by have := u4.length_eq; simpa using this
      refine ⟨o', r2, e2, t3, u1, u2, u3, fun e he => ?_, ?_, fun i => ?_, by rw [sz, z1]; exact room, u5, sz, u6, led.imp id fun q => by rw [u7, hl, l0]; exact q⟩
      · rcases List.mem_cons.mp ((u4.trans p1).mem_iff.mp he) with q | q
        · exact ⟨k, tk, by rw [q], by rw [q]⟩
        · exact g e q
      · exact (v2.trans p2).nodup_iff.mpr (List.nodup_cons.mpr ⟨out, nd⟩)
      · rw [(v2.trans p2).mem_iff, List.mem_cons, ← m i, Bool.or_eq_true, decide_eq_true_eq]
        exact Or.comm
    have fin : ∀ h'', Heap.SameBut a s.heap h'' → SetT P w h'' a (fun j => S j || decide (j = k)) r1.size → Q true { s with heap := h'' } := fun h'' sb r => by
      have q := hQ h'' sb
      rw [gone, if_neg Bool.false_ne_true, ← z1] at q
      exact q r
    refine wpAny_bind (giveWay ?_)
    split
    · refine wpAny_bind ?_
      rw [hashByValue_scannable 8 sc]
      refine wpAny_pure (setT_tail (fun b1 s1 Q' q => giveWay q) ho hx hd (new ?_) (by rw [z1]; exact room) ?_ ?_ fun h'' sb r => ?_)
      · first | rfl | (split <;> rfl)
      · first | exact f0 | (split <;> first | exact f0 | exact SetTable.fits_plain_off f0)
      · first | exact r0 | (split <;> exact r0)
      · exact wpAny_pure (fin h'' sb r)
    · refine wpAny_bind (wpAny_pure ?_)
      simp only [↓reduceIte]
      exact setT_tail (fun b1 s1 Q' q => giveWay q) ho hx hd (new rfl) (by rw [z1]; exact room) f0 r0 fun h'' sb r => wpAny_pure (fin h'' sb r)
/-- found.add(x) -/
theorem setT_add {k : Str} {tk : Tok} {Q : Value → Shared → Prop} (R : SetT P w s.heap a S n) (room : n + 1 < scanBound)
    (hQ : ∀ h'', Heap.SameBut a s.heap h'' → SetT P w h'' a (fun j => S j || decide (j = k)) (if S k = true then n else n + 1) → Q .none { s with heap := h'', toks := s.toks + 1 }) :
    wpAny (model P w) A (call (.builtin "set.add") [.ref a, .str k tk]) Q E s := by
  refine wpAny_call_entry F.slot_set_add R.of.typeIs F.entry_set_add ?_ (F.args_set_add_2 _ _)
  unfold Builtin.«set.add» Builtin.Frozenset.oneOther
  simp only [List.isEmpty_nil, bind_assoc]
  unfold Builtin.Frozenset.addrOf setAdd
  refine wpAny_bind (wpAny_pure ?_)
  refine wpAny_bind (wpAny_pure ?_)
  refine wpAny_bind (wpAny_holding (wpAny_bind ((PySem.strKind P w).pyHash (strKind_is P w k tk) ?_)))
  refine setT_put (s := { s with toks := s.toks + 1 }) R room fun h'' sb r => ?_
  exact wpAny_pure ⟨_, rfl, hQ h'' sb r⟩
end
end LW
namespace LW
open PySem PySem.Spec PyProof.Rows L2
theorem SetT.alike {P : Program} {w : World} {h : Heap} {a : Addr} {S S' : Str → Bool} {n : Nat} (R : SetT P w h a S n) (e : ∀ k, S' k = S k) : SetT P w h a S' n := by
  rw [show S' = S from funext e]; exact R
section
variable {P : Program} {w : World} {A : Around} {R : Result → Shared → Prop} {I : Addr} {fp wr : List Addr} {G : Array GenState → Array GenState → Prop} {n : Nat} {Pv : Nat → Value → Prop} {St : Nat → Shared → Prop}
/-- the members of xs, one after another, into the set at b -/
theorem fill_set (W : WalksS P w A.in1 I fp wr G n Pv St) (b : Addr) (nb : b ∉ fp) (xs : List Str) (lx : xs.length = n) (room : n < scanBound) (val : ∀ i v, Pv i v → ∃ t, v = .str (xs.getD i Str.empty) t) :
    ∀ (m i : Nat) (s : Shared), n - i = m → i ≤ n → St i s → (∃ c, c ≤ i ∧ SetT P w s.heap b (fun k => decide (k ∈ xs.take i)) c) →
      (∀ s', Moved (b :: wr) G s s' → (∃ c, c ≤ n ∧ SetT P w s'.heap b (fun k => decide (k ∈ xs)) c) → R (.ok (.ret .none)) s') →
      codeAny (model P w) A (.builtin "set.update.loop" ⟨[.ref b, .ref I], []⟩) R s := by
  have nw : b ∉ wr := fun h => nb (W.sub _ h)
  have up : ∀ y ∈ wr, y ∈ b :: wr := fun y hy => List.mem_cons_of_mem _ hy
  intro m
  induction m with
  | zero =>
    intro i s e hi st hs fin
    obtain rfl : i = n := by omega
    refine codeAny_builtin PyProof.Rows.F.entry_set_update_loop ?_
    rw [Around.under_plainId PyProof.Rows.F.plain_set_update_loop _]
    refine wpAny_bind (m := pyNext (.ref I)) (W.done s _ _ st fun s1 mv => ?_)
    refine wpAny_pure (fin s1 (mv.mono up) ?_)
    obtain ⟨c, hc, r⟩ := hs
    refine ⟨c, hc, (r.keep fun o ho => mv.heap b _ nw ho).alike fun k => ?_⟩
    rw [← lx, List.take_length]
  | succ m ih =>
    intro i s e hi st hs fin
    have lt : i < n := by omega
    refine codeAny_builtin PyProof.Rows.F.entry_set_update_loop ?_
    rw [Around.under_plainId PyProof.Rows.F.plain_set_update_loop _]
    refine wpAny_bind (m := pyNext (.ref I)) (W.item i s _ _ lt st fun v s1 pv st1 mv => ?_)
    obtain ⟨t, rfl⟩ := val i v pv
    obtain ⟨c, hc, r⟩ := hs
    have r1 := r.keep (h' := s1.heap) fun o ho => mv.heap b _ nw ho
    refine wpAny_bind (m := holding [Value.str (xs.getD i Str.empty) t] (setAdd b (.str (xs.getD i Str.empty) t))) (wpAny_holding ?_)
    unfold setAdd
    refine wpAny_holding (wpAny_bind ((PySem.strKind P w).pyHash (strKind_is P w _ t) ?_))
    refine setT_put (s := { s1 with toks := s1.toks + 1 }) r1 (by omega) fun h2 sb r2 => ?_
    have xi : xs[i]? = some (xs.getD i Str.empty) := by
      rw [List.getD_eq_getElem?_getD, List.getElem?_eq_getElem (by omega)]; rfl
    have tk : xs.take (i + 1) = xs.take i ++ [xs.getD i Str.empty] := by
      rw [List.take_add_one, xi]; rfl
    refine wpAny_pure ⟨plainId_quiet PyProof.Rows.F.plain_set_update_loop _, ih (i + 1) _ (by omega) lt (W.frame _ s1 _ _ st1 (Nat.le_succ _) fun y hy o ho => ?_) ⟨_, ?_, r2.alike fun k => ?_⟩ fun s2 mv2 r3 => ?_⟩
    · rw [sb.2 y fun q => nb (q ▸ hy)]; exact ho
    · split <;> omega
    · rw [tk, ← Bool.decide_or]
      exact decide_eq_decide.mpr (by rw [List.mem_append, List.mem_singleton])
    · refine fin s2 (Moved.trans W.gtrans ((mv.mono up).then_heap (Nat.le_succ _) fun y o hy ho => ?_) mv2) r3
      rw [sb.2 y fun q => hy (by rw [q]; exact List.mem_cons_self)]; exact ho
end
section
variable {P : Program} {w : World} {A : Around} {E : Value → Shared → Prop} {s : Shared}
/-- set(xs), a list of texts -/
theorem set_of_list {l : Addr} {its : Array Value} {xs : List Str} {Q : Value → Shared → Prop} (hh : A.handled = none) (hl : s.heap.IsList l its) (hi : PyProof.Rows.StrsAre its.toList xs) (room : xs.length < scanBound)
    (q : ∀ (h' : Heap) (tk : Nat), (∃ c, c ≤ xs.length ∧ SetT P w h' s.heap.objs.size (fun k => decide (k ∈ xs)) c) → (∀ b o, b < s.heap.objs.size → s.heap.get? b = some o → h'.get? b = some o) → Q (.ref s.heap.objs.size) { s with heap := h', toks := tk }) :
    wpAny (model P w) A (call (.type "set") [.ref l]) Q E s := by
  obtain ⟨_, _, m0⟩ := PySem.F.called_set.mro
  have m1 := PySem.F.called_set.made
  have m2 := PySem.F.called_set.sub
  have m3 := PySem.F.called_set.notType
  have m4 := PySem.F.called_set.canCreate
  have m5 := PySem.F.typeCall_set_1 (.ref l)
  have hlt : l < s.heap.objs.size := by obtain ⟨o, ho, _⟩ := hl; exact Heap.lt_size ho
  have hz : its.size = xs.length := by rw [← Array.length_toList, ← StrsAre.len_eq hi]
  refine wpAny_call (codeAny_of_tree ?_)
  show wpAny _ _ (callAny (.type "set") _) _ _ _
  refine wpAny_pure ⟨Code.quiet_builtin _ (by decide +kernel), codeAny_builtin PySem.F.entry_type_call ?_⟩
  rw [Around.under_plain (weight_type_call_type "set" [.ref l] []) rfl]
  repeat (any_goals (first | assumption | wp_step))
  let s1 : Shared := { s with heap := s.heap.push { cls := .type "set", dict := none, data := .set #[] 0 (.fresh 0 0 (!w.params.followText "set-order")) } }
  refine codeAny_mono (code_set_led1 (.ref l) (E := E) (Q₁ := fun v s' => v = .ref s.heap.objs.size ∧ s' = s1) ⟨rfl, rfl⟩) fun r s' hr => ?_
  match r, hr with
  | .error _, hr => exact hr
  | .ok (.ret obj), hr =>
    obtain ⟨rfl, rfl⟩ := hr
    have b0 : s1.heap.get? s.heap.objs.size = some { cls := .type "set", dict := none, data := .set #[] 0 (.fresh 0 0 (!w.params.followText "set-order")) } := Heap.get?_push_size _ rfl
    have b1 : s1.TypeIs (.ref s.heap.objs.size) "set" := ⟨_, b0, rfl⟩
    have b2 := PySem.F.called_set.init.lookup
    have b3 := PySem.F.called_set.init.bind (.ref s.heap.objs.size)
    repeat (any_goals (first | assumption | wp_step))
    refine codeAny_mono (codeAny_call_builtin (R := wants (fun v s' => v = .none ∧ Q (.ref s.heap.objs.size) s') E) PySem.F.called_set.init.plain PySem.F.entry_set_init (check_set_init_1 b1 ?_)) fun r2 s2 hr2 => ?_
    · obtain ⟨⟨c0, d0, data0, sl0⟩, o1, o2, nl, o3⟩ := id hl
      simp only at o2 o3
      subst o2; subst o3
      have o4 : s1.heap.get? l = some { cls := .type "list", dict := d0, data := .seq its nl, slots := sl0 } := Heap.get?_push_of_some _ o1
      have k1 := PySem.F.sub_list_set
      have k2 := PySem.F.sub_list_frozenset
      have k3 : (Value.type "list" == Value.type "dict") = false := by decide
      have l1 : s1.heap.IsList l its := ⟨_, o4, rfl, nl, rfl⟩
      unfold Builtin.«set.__init__» noKeywords Builtin.Frozenset.updateFrom
      generalize hPI : pyIter = PI
      wp_walk
      subst hPI
      refine wpAny_pyIter_list l1 (wpAny_bind (wpAny_runValue ?_))
      have z1 : s1.heap.objs.size = s.heap.objs.size + 1 := Heap.size_push ..
      have nI : l ≠ s1.heap.objs.size := Nat.ne_of_lt (by rw [z1]; exact Nat.lt_succ_of_lt hlt)
      have nf : s.heap.objs.size ∉ [s1.heap.objs.size, l] := by
        intro m
        rcases List.mem_cons.mp m with m | m
        · have m' : s.heap.objs.size = s1.heap.objs.size := m
          omega
        · have m' : s.heap.objs.size = l := List.mem_singleton.mp m
          exact absurd hlt (by rw [← m']; exact Nat.lt_irrefl _)
      have h3 : A.in1.in1.in1.handled = none := by simp [hh]
      have vl : ∀ (i : Nat) (v : Value), its[i]? = some v → ∃ t, v = .str (xs.getD i Str.empty) t := fun i v e => SS.strs_at hi i v (by rw [Array.getElem?_toList]; exact e)
      refine fill_set ((Walks.list h3 _ l nI its).toS) s.heap.objs.size nf xs hz.symm (by rw [hz]; exact room) vl (its.size - 0) 0 _ rfl (Nat.zero_le _) ⟨⟨_, Heap.get?_push_size _ rfl, rfl, rfl⟩, l1.push _⟩ ⟨0, Nat.le_refl _, ?_⟩ ?_
      · exact (setT_fresh P w (Heap.get?_push_of_some _ b0)).alike fun k => by simp
      · rintro ⟨h', g', d', tk', os'⟩ mv r
        obtain rfl : g' = s.gens := mv.gens
        obtain rfl : d' = s.drawn := mv.drawn
        obtain rfl : os' = s.os := mv.os
        show wpAny _ _ _ _ _ _
        refine wpAny_pure ?_
        show wpAny _ _ (ret Value.none) _ _ _
        refine wpAny_pure ⟨rfl, q h' tk' (by rw [hz] at r; exact r) fun b o hb e => mv.heap b o (fun m => ?_) (Heap.get?_push_of_some _ (Heap.get?_push_of_some _ e))⟩
        rcases List.mem_cons.mp m with m | m
        · have m' : b = s.heap.objs.size := m
          omega
        · have m' : b = s1.heap.objs.size := List.mem_singleton.mp m
          omega
    · match r2, hr2 with
      | .error _, hr2 => exact hr2
      | .ok (.ret v), hr2 =>
        obtain ⟨rfl, q2⟩ := hr2
        repeat (any_goals (first | assumption | wp_step))
      | .ok .next, hr2 => exact hr2.elim
      | .ok .brk, hr2 => exact hr2.elim
      | .ok .cont, hr2 => exact hr2.elim
  | .ok .next, hr => exact hr.elim
  | .ok .brk, hr => exact hr.elim
  | .ok .cont, hr => exact hr.elim
end
end LW
namespace LW
open PySem PySem.Spec PyProof.Rows L2
section
variable {P : Program} {w : World} {A : Around} {E : Value → Shared → Prop} {s : Shared}
/-- the texts that the values hold -/
theorem strs_are : ∀ (l : List Value), (∀ v ∈ l, ∃ x tk, v = Value.str x tk) → StrsAre l (l.map fun v => rowTxt (0, v))
  | [], _ => .nil
  | v :: l, h => by
    obtain ⟨x, tk, rfl⟩ := h v List.mem_cons_self
    exact .cons x tk (strs_are l fun u m => h u (List.mem_cons_of_mem _ m))
/-- sorted(found), a set of texts -/
theorem sorted_setT {a : Addr} {S : Str → Bool} {n : Nat} {Q : Value → Shared → Prop} (R : SetT P w s.heap a S n) (hh : A.handled = none)
    (q : ∀ s' p (out : Array Value) (c : Nat) (xs : List Str), (∀ b o, s.heap.get? b = some o → s'.heap.get? b = some o) → s'.gens = s.gens → s'.os = s.os → s.heap.objs.size ≤ p →
      s'.heap.get? p = some (seqObj "list" out c) → StrsAre out.toList xs → sortedS xs = true → xs.Nodup → (∀ k, k ∈ xs ↔ S k = true) → xs.length = n → Q (.ref p) s') :
    wpAny (model P w) A (call (.builtin "sorted") [.ref a]) Q E s := by
  obtain ⟨o, rows, ep, t, ho, hx, hd, g, nd, m, b, f, z, ris, led⟩ := R
  have fits := fits_of_scanBound b
  refine Calls.call_function_entry kind_sorted plain_sorted entry_sorted (args_sorted1 _) ?_
  unfold Builtin.«sorted»
  refine wpAny_bind (m := checkCount "sorted" 1 1 _) (wpAny_pure (wpAny_bind (collect_set (A := A.in1) hh ⟨o, ho, hx.1, hd⟩ f b ris led fun s1 vs keep big e1 e2 pm => ?_)))
  have lv : vs.length = n := by have := pm.length_eq; simp only [List.length_map, Array.length_toList] at this; omega
  have all : ∀ v ∈ vs, ∃ x tk, v = Value.str x tk := fun v hv => by
    obtain ⟨e, he, rfl⟩ := List.mem_map.mp (pm.mem_iff.mp hv)
    obtain ⟨x, tk, u, _⟩ := g e he
    exact ⟨x, tk, u⟩
  have sa := strs_are vs all
  have pk : (vs.map fun v => rowTxt (0, v)).Perm (rows.toList.map rowTxt) := by
    have r := pm.map fun v => rowTxt (0, v)
    rw [List.map_map] at r
    exact r
  refine wpAny_bind (wpAny_newList ?_ (by rw [lv]; omega))
  have ob : (s1.heap.push (seqObj "list" vs.toArray 0)).get? s1.heap.objs.size = some (seqObj "list" vs.toArray 0) := Heap.get?_push_size _ rfl
  refine wpAny_bind (wpAny_holding (wpAny_call_entry slot_list_sort ⟨_, ob, rfl⟩ entry_list_sort
    (list_sort_treeKAny strKind_oneLt ob sa.keysOf (fun v1 v2 rest e => keyKind_strs (by rw [← e]; exact sa)) (by rw [lv]; omega) fun st p1 p2 => ⟨_, rfl, ?_⟩) (args_list_sort _)))
  obtain ⟨ys, y1, y2, y3⟩ := sorted_out_str sa p1 p2
  obtain ⟨c, hc⟩ := sortedHeap_at (vs := vs) (out := (arrOf st).map (·.2)) ob
  have py := y2.trans pk
  refine wpAny_pure ⟨_, rfl, q _ s1.heap.objs.size _ c ys (fun b' u e => ?_) e1 e2 big hc y1 y3 (py.nodup_iff.mpr nd) (fun k => by rw [py.mem_iff, ← m k]) (by have := py.length_eq; simp only [List.length_map, Array.length_toList] at this; omega)⟩
  have k1 := keep b' u e
  have lt := Heap.lt_size k1
  rw [show ({ s1 with heap := sortedHeap (s1.heap.push (seqObj "list" vs.toArray 0)) s1.heap.objs.size vs ((arrOf st).map (·.2)) } : Shared).heap = sortedHeap (s1.heap.push (seqObj "list" vs.toArray 0)) s1.heap.objs.size vs ((arrOf st).map (·.2)) from rfl,
    sortedHeap_old (Nat.ne_of_lt lt) (by rw [size_push']; exact Nat.lt_succ_of_lt lt)]
  exact Heap.get?_push_of_some _ k1
end
/-- the set of texts at a, as a tracked thing -/
def SetTO (P : Program) (w : World) (a : Addr) (S : Str → Bool) (n : Nat) : HO := .ext fun h => SetT P w h a S n
theorem setTO_new {w : World} {P : Program} {H : Hp} {h : Heap} {a : Addr} {S : Str → Bool} {n : Nat} (R : SetT P w h a S n) : ObjOk P w H h a (SetTO P w a S n) :=
  ⟨R, let ⟨o, _, _, _, ho, _⟩ := R; ⟨o, ho⟩, fun _ _ r k => r.keep k⟩
section
variable {X : Cx}
theorem setTO_get {pins : List (Addr × Obj)} {σ : L2.St} {H : Hp} {s : Shared} {a : Addr} {S : Str → Bool} {n : Nat} (I : Inv X pins σ H s) (ha : H a = some (SetTO X.prog X.w a S n)) : SetT X.prog X.w s.heap a S n := (I.hok a _ ha).1
/-- set.add of a text -/
theorem addT_ok {pins : List (Addr × Obj)} {σ : L2.St} {H : Hp} {s : Shared} {E : Value → Shared → Prop} {D : Addr} {S : Str → Bool} {n : Nat} {y : Str} {tk : Tok} {Q : Value → Shared → Prop} (I : Inv X pins σ H s) (hD : H D = some (SetTO X.prog X.w D S n)) (room : n + 1 < scanBound)
    (q : ∀ s', Inv X pins σ (L2.upd H D (SetTO X.prog X.w D (fun j => S j || decide (j = y)) (if S y = true then n else n + 1))) s' → Q .none s') : wpAny (model X.prog X.w) X.A (call (.builtin "set.add") [.ref D, .str y tk]) Q E s :=
  setT_add (setTO_get I hD) room fun h' sb r => q _ (I.write (e := D) (t' := s.toks + 1) (by rw [hD]; trivial) (.inl rfl) (fun b u hb hu => (sb.2 b hb).trans hu) (let ⟨o, _, _, _, ho, _⟩ := r; ⟨o, ho⟩) (setTO_new r))
/-- set(xs), a list of texts -/
def rSetOfS (K : PySem.W.Frag) (P : Program) (w : World) : List V → Hp → VK → Prop := fun xs H Q => ∃ (l : Addr) (zs : List Str), xs = [V.ref l] ∧ SqL K H l (zs.map V.str) ∧ zs.length < scanBound ∧
  ∀ p c, c ≤ zs.length → H p = none → Q (.ref p) (L2.upd H p (SetTO P w p (fun k => decide (k ∈ zs)) c))
theorem cr_setOfS (hc : X.calm = true) : CallR X (.type "set") (rSetOfS X.K X.prog X.w) := by
  intro pins s σ H xs us Q I r h
  obtain ⟨l, zs, rfl, hs, room, q⟩ := h
  obtain ⟨its, rv, hl, _⟩ := I.list hs
  rw [Vals.ref1 r]
  refine set_of_list (I.ok.hd hc) hl.isList (by simpa using rv.strs) room fun h' tk ⟨c, hc', R⟩ keep => ?_
  exact ⟨.ref _, _, I.laid (t' := tk) (fun b o e => keep b o (Heap.lt_size e) e) (Nat.le_refl _) (setTO_new R), rfl, q _ c hc' (I.hok.fresh (Nat.le_refl _))⟩
/-- sorted(found), a set of texts -/
def rSortedT (P : Program) (w : World) : List V → Hp → VK → Prop := fun vs H Q => ∃ (a : Addr) (S : Str → Bool) (n : Nat), vs = [V.ref a] ∧ H a = some (SetTO P w a S n) ∧
  ∀ (xs : List Str) (p : Addr), sortedS xs = true → xs.Nodup → (∀ k, k ∈ xs ↔ S k = true) → xs.length = n → H p = none → Q (.ref p) (L2.upd H p (.lst (xs.map V.str)))
theorem cr_sortedT (hc : X.calm = true) : CallR X (.builtin "sorted") (rSortedT X.prog X.w) := by
  intro pins s σ H vs us Q I r h
  obtain ⟨a, S, n, rfl, ha, q⟩ := h
  have R := setTO_get I ha
  have small : n ≤ sizeLine := by
    obtain ⟨_, rows, _, _, _, _, _, _, _, _, b, _, z, _⟩ := R
    rw [← z]; exact fits_of_scanBound b
  rw [Vals.ref1 r]
  refine sorted_setT R (I.ok.hd hc) fun s' p out c xs k g o hp hg hi h1 h2 h3 h4 => ?_
  have nx : H p = none := I.hok.fresh hp
  obtain ⟨hp', gens', drawn', toks', os'⟩ := s'
  obtain rfl : os' = s.os := o
  refine ⟨.ref p, _, ?_, rfl, q xs p h1 h2 h3 h4 nx⟩
  exact I.call (ch := []) (Un.laid k hp nx) (I.hok.laid k hp ⟨by rw [List.length_map, h4]; exact small, out.toList, c, vals_of_strs hi, hg⟩) (by rw [show gens' = s.gens from g]; exact I.bare) (fun _ z => nomatch z)
/-- sorted(xs), a list of texts of any length -/
def rSortedL (K : PySem.W.Frag) : List V → Hp → VK → Prop := fun vs H Q => ∃ (a : Addr) (xs : List Str), vs = [V.ref a] ∧ SqL K H a (xs.map V.str) ∧
  ∀ (ys : List Str) (p : Addr), ys.Perm xs → sortedS ys = true → H p = none → Q (.ref p) (L2.upd H p (.lst (ys.map V.str)))
theorem cr_sortedL : CallR X (.builtin "sorted") (rSortedL X.K) := by
  intro pins s σ H vs us Q I r h
  obtain ⟨a, xs, rfl, hs, q⟩ := h
  obtain ⟨its, rv, hl, hz⟩ := I.list hs
  rw [Vals.ref1 r]
  refine sorted_strsAny hl.isList rv.strs (by rw [← rv.length]; exact hz) fun out ys h1 h2 h3 => ?_
  obtain ⟨ep, he⟩ := PyProof.Rows.sortedAll_at s.heap its out
  rw [List.length_map] at hz
  exact ⟨.ref _, _, I.laid (t' := s.toks) (fun _ _ => PyProof.Rows.sortedAll_old) (Nat.le_succ _) (show ObjOk X.prog X.w _ _ _ (.lst (ys.map V.str)) from ⟨by rw [List.length_map, h2.length_eq]; exact hz, out.toList, ep, vals_of_strs h1, he⟩), rfl, q ys _ h2 h3 (I.hok.fresh (Nat.le_succ _))⟩
end
/-! ### two sorted lists with the same members -/
theorem sorted_pw : ∀ (p : Str) (l : List Str), risingS p l = true → (∀ y ∈ l, ¬ y.cps.toList < p.cps.toList) ∧ l.Pairwise fun x y => ¬ y.cps.toList < x.cps.toList := by
  intro p l
  induction l generalizing p with
  | nil => exact fun _ => ⟨(fun _ h => nomatch h), List.Pairwise.nil⟩
  | cons x r ih =>
    intro h
    unfold risingS at h
    rw [Bool.and_eq_true, Bool.not_eq_true', ltCps_eq] at h
    obtain ⟨h1, h2⟩ := h
    have h1 := of_decide_eq_false h1
    obtain ⟨i1, i2⟩ := ih x h2
    refine ⟨fun y hy => ?_, List.pairwise_cons.mpr ⟨i1, i2⟩⟩
    rcases List.mem_cons.mp hy with rfl | hy
    · exact h1
    · exact fun z => h1 (List.lt_of_le_of_lt (List.not_lt.mp (i1 y hy)) z)
theorem sorted_pairwise {l : List Str} (h : sortedS l = true) : l.Pairwise fun x y => ¬ y.cps.toList < x.cps.toList := by
  cases l with
  | nil => exact List.Pairwise.nil
  | cons x r => exact List.pairwise_cons.mpr (sorted_pw x r h)
theorem str_cps {x y : Str} (h : x.cps.toList = y.cps.toList) : x = y := by
  cases x; cases y
  exact congrArg Str.mk (Array.toList_inj.mp h)
/-- sorted lists that are rearrangements of one another are equal -/
theorem sorted_perm {l m : List Str} (h1 : sortedS l = true) (h2 : sortedS m = true) (p : l.Perm m) : l = m :=
  p.eq_of_pairwise (fun a b _ _ q1 q2 => str_cps (List.le_antisymm (List.not_lt.mp q1) (List.not_lt.mp q2))) (sorted_pairwise h1) (sorted_pairwise h2)
theorem sorted_mem {l m : List Str} (h1 : sortedS l = true) (h2 : sortedS m = true) (n1 : l.Nodup) (n2 : m.Nodup) (e : ∀ k, k ∈ l ↔ k ∈ m) : l = m :=
  sorted_perm h1 h2 ((List.perm_ext_iff_of_nodup n1 n2).mpr e)
theorem sorted_ints {l m : List Int} (h1 : l.Pairwise (· ≤ ·)) (h2 : m.Pairwise (· ≤ ·)) (p : l.Perm m) : l = m :=
  p.eq_of_pairwise (fun a b _ _ q1 q2 => Int.le_antisymm q1 q2) h1 h2
end LW
/-! {elt for tg in iter if .. for tg1 in iter1 if ..}: a set of texts over two clauses. -/
namespace LW
open PySem PySem.Spec PyProof.Rows L2 PpSet
abbrev sc2 (elt t0 i0 t1 i1 : Expr) (f0 f1 : List Expr) (scope : Scope) (pos : Pos) : Expr := .SetComp elt [⟨t0, i0, f0, 0⟩, ⟨t1, i1, f1, 0⟩] scope pos
theorem sc2_turn0 (elt t0 i0 t1 i1 : Expr) (f0 f1 : List Expr) (scope : Scope) (pos : Pos) (it acc : Value) (env : Env) : compTurn (sc2 elt t0 i0 t1 i1 f0 f1 scope pos) 0 it acc env = (do
      standAt i0.pos
      match ← pyNext it with
      | none => pure (.done .next)
      | some u =>
        letOwnedTupleGo t0 it u
        assign t0 env u
        let mut go := true
        for test in f0 do
          if go then go ← isTrue test env (eval test env)
        if go then
          let src ← eval i1 env
          standAt i1.pos
          let src ← foldedSetIterable i1 env src
          let _ ← runOwn (.compStart (sc2 elt t0 i0 t1 i1 f0 f1 scope pos) 1 (← holding [src] (pyIter src)) acc env) env
        again (.compLoop (sc2 elt t0 i0 t1 i1 f0 f1 scope pos) 0 it acc env)) := by rfl
theorem sc2_turn1 (elt t0 i0 t1 i1 : Expr) (f0 f1 : List Expr) (scope : Scope) (pos : Pos) (it acc : Value) (env : Env) : compTurn (sc2 elt t0 i0 t1 i1 f0 f1 scope pos) 1 it acc env = (do
      standAt i1.pos
      match ← pyNext it with
      | none => pure (.done .next)
      | some u =>
        letOwnedTupleGo t1 it u
        assign t1 env u
        let mut go := true
        for test in f1 do
          if go then go ← isTrue test env (eval test env)
        if go then
          (do let new ← eval elt env; standAt elt.pos; let _ ← call (.builtin "set.add") [acc, new])
        again (.compLoop (sc2 elt t0 i0 t1 i1 f0 f1 scope pos) 1 it acc env)) := by rfl
section
variable {P : Program} {w : World} {A : Around} {R : Result → Shared → Prop} {s : Shared} {elt t0 i0 t1 i1 : Expr} {f0 f1 : List Expr} {scope : Scope} {pos : Pos} {it acc : Value} {env : Env}
/-- what is wanted where something is raised in the block -/
abbrev Up (P : Program) (w : World) (A : Around) (env : Env) (R : Result → Shared → Prop) : Value → Shared → Prop := notedBy (model P w) A env fun e s' => R (.error e) s'
/-- the tests of a clause -/
abbrev tests (fs : List Expr) (env : Env) : Sem Bool := forIn fs true fun c r => if r = true then do let ok ← isTrue c env (eval c env); pure (ForInStep.yield ok) else pure (ForInStep.yield r)
theorem sc2_loop0 (plain : ∀ x, foldedSetIterable i1 env x = pure x) (Go : Nat → Shared → Prop) (turn : ∀ n s, Go n s → wpAny (model P w) A (pyNext it) (fun r s1 => match r with
      | none => R (.ok .next) s1
      | some u => wpAny (model P w) A (letOwnedTupleGo t0 it u) (fun _ s2 => wpAny (model P w) A (assign t0 env u) (fun _ s3 => wpAny (model P w) A (tests f0 env) (fun go s4 =>
            if go = true then wpAny (model P w) A (eval i1 env) (fun src s5 => wpAny (model P w) A (pyIter src) (fun inner s6 =>
              codeAny (model P w) A (.compStart (sc2 elt t0 i0 t1 i1 f0 f1 scope pos) 1 inner acc env) (fun r s7 => match r with
                | .ok _ => ∃ m, m < n ∧ Go m s7
                | .error _ => False) s6) (Up P w A env R) s5) (Up P w A env R) s4
            else ∃ m, m < n ∧ Go m s4) (Up P w A env R) s3) (Up P w A env R) s2) (Up P w A env R) s1) (Up P w A env R) s) (n : Nat) (h : Go n s) :
    codeAny (model P w) A (.compLoop (sc2 elt t0 i0 t1 i1 f0 f1 scope pos) 0 it acc env) R s := by
  refine codeAny_loop rfl Go (fun n s g => ?_) n h
  show wpAny _ A ((compTurn (sc2 elt t0 i0 t1 i1 f0 f1 scope pos) 0 it acc env).onRaise (fun x => do noteFrame x env; theTreesLotGoes x)) _ _ s
  have up : ∀ (e : Value) (s' : Shared), Up P w A env R e s' → Up P w A env R e s' := fun _ _ z => z
  refine wpAny_noted ?_
  rw [sc2_turn0]
  refine wpAny_bind (wpAny_standAt (wpAny_bind (wpAny_mono (turn n s g) (fun r s1 h1 => ?_) up)))
  match r, h1 with
  | none, h1 => exact wpAny_pure h1
  | some u, h1 =>
    refine wpAny_bind (wpAny_mono h1 (fun _ s2 h2 => wpAny_bind (wpAny_mono h2 (fun _ s3 h3 => wpAny_bind (wpAny_mono h3 (fun go s4 h4 => ?_) up)) up)) up)
    match go, h4 with
    | false, h4 => exact wpAny_pure ⟨rfl, h4⟩
    | true, h4 =>
      refine wpAny_bind (wpAny_mono h4 (fun src s5 h5 => wpAny_bind (wpAny_standAt (wpAny_bind (wpAny_of_eq (plain src) (wpAny_bind (wpAny_holding (wpAny_mono h5 (fun inner s6 h6 => ?_) up))))))) up)
      refine wpAny_bind (wpAny_runOwn ?_)
      rw [Around.mark_none]
      refine codeAny_mono h6 fun r s7 h7 => ?_
      match r, h7 with
      | .ok _, h7 => first | exact wpAny_pure ⟨rfl, h7⟩ | exact wpAny_bind (wpAny_pure (wpAny_pure ⟨rfl, h7⟩))
      | .error _, h7 => exact h7.elim
theorem sc2_loop1 (Go : Nat → Shared → Prop) (turn : ∀ n s, Go n s → wpAny (model P w) A (pyNext it) (fun r s1 => match r with
      | none => R (.ok .next) s1
      | some u => wpAny (model P w) A (letOwnedTupleGo t1 it u) (fun _ s2 => wpAny (model P w) A (assign t1 env u) (fun _ s3 => wpAny (model P w) A (tests f1 env) (fun go s4 =>
            if go = true then wpAny (model P w) A (eval elt env) (fun new s5 => wpAny (model P w) A (call (.builtin "set.add") [acc, new]) (fun _ s6 => ∃ m, m < n ∧ Go m s6) (Up P w A env R) s5) (Up P w A env R) s4
            else ∃ m, m < n ∧ Go m s4) (Up P w A env R) s3) (Up P w A env R) s2) (Up P w A env R) s1) (Up P w A env R) s) (n : Nat) (h : Go n s) :
    codeAny (model P w) A (.compLoop (sc2 elt t0 i0 t1 i1 f0 f1 scope pos) 1 it acc env) R s := by
  refine codeAny_loop rfl Go (fun n s g => ?_) n h
  show wpAny _ A ((compTurn (sc2 elt t0 i0 t1 i1 f0 f1 scope pos) 1 it acc env).onRaise (fun x => do noteFrame x env; theTreesLotGoes x)) _ _ s
  have up : ∀ (e : Value) (s' : Shared), Up P w A env R e s' → Up P w A env R e s' := fun _ _ z => z
  refine wpAny_noted ?_
  rw [sc2_turn1]
  refine wpAny_bind (wpAny_standAt (wpAny_bind (wpAny_mono (turn n s g) (fun r s1 h1 => ?_) up)))
  match r, h1 with
  | none, h1 => exact wpAny_pure h1
  | some u, h1 =>
    refine wpAny_bind (wpAny_mono h1 (fun _ s2 h2 => wpAny_bind (wpAny_mono h2 (fun _ s3 h3 => wpAny_bind (wpAny_mono h3 (fun go s4 h4 => ?_) up)) up)) up)
    match go, h4 with
    | false, h4 => exact wpAny_pure ⟨rfl, h4⟩
    | true, h4 =>
      refine wpAny_bind (wpAny_bind (wpAny_mono h4 (fun new s5 h5 => wpAny_bind (wpAny_standAt (wpAny_bind (wpAny_mono h5 (fun _ s6 h6 => ?_) up)))) up))
      exact wpAny_pure (wpAny_pure ⟨rfl, h6⟩)
/-- a clause's start -/
theorem sc2_start (k : Nat) (hk : k = 0 ∨ k = 1) (h0 : codeAny (model P w) A (.compLoop (sc2 elt t0 i0 t1 i1 f0 f1 scope pos) k it acc env) R s)
    (h : wpAny (model P w) A (pyIter it) (fun it' s' => codeAny (model P w) A (.compLoop (sc2 elt t0 i0 t1 i1 f0 f1 scope pos) k it' acc env) R s') (Up P w A env R) s) :
    codeAny (model P w) A (.compStart (sc2 elt t0 i0 t1 i1 f0 f1 scope pos) k it acc env) R s := by
  refine codeAny_of_tree ?_
  show wpAny _ _ ((compStart (sc2 elt t0 i0 t1 i1 f0 f1 scope pos) k it acc env).onRaise (fun x => do noteFrame x env; standAt theWindowsPlace)) _ _ s
  refine wpAny_notedAt ?_
  unfold compStart
  rcases hk with rfl | rfl
  all_goals
    show wpAny _ _ (ask >>= _) _ _ s
    refine wpAny_bind (wpAny_askSetting (wpAny_ite ?_))
    split
    · first | exact wpAny_bind (wpAny_pure (wpAny_pure (And.intro rfl h0))) | exact wpAny_pure (And.intro rfl h0)
    · refine wpAny_bind (wpAny_rule ?_)
      show wpAny _ _ (standAt _ >>= _) _ _ s
      exact wpAny_bind (wpAny_standAt (wpAny_bind (wpAny_mono h (fun it' s' z => wpAny_pure (And.intro rfl z)) fun _ _ x => x)))
end
end LW
namespace LW
open PySem PySem.Spec PyProof.Rows L2 PpSet
/-- behind the first clause's target and tests the second source is walked; where its walk ends, Nx; D: the new set -/
def tScT2 (P : Program) (w : World) (wi : TI) (g : TG) (tt : TT) (wi1 : TI) (g1 : TG) (tt1 : TT) (te : TE) (vs vs1 : List Nat) : TE := fun σ H Q => wi σ H fun J H1 => ∀ D, H1 D = none →
  ∃ W : Nat → Nat → Hp → Prop, (∃ m, W 0 m (L2.upd H1 D (SetTO P w D (fun _ => false) 0))) ∧ ∀ i m H, W i m H →
    (J.stop i H ∧ Q (.ref D) H) ∨ (J.go i H ∧ ∃ Nx : Hp → Prop, (∀ H', Nx H' → ∃ m', m' < m ∧ W (i + 1) m' H') ∧ ∀ x H', J.yld i H x H' → g x (wipe σ vs) H' fun σ2 H2 => wipe σ2 vs = wipe σ vs ∧ tt σ2 H2 fun b H3 =>
      if b = true then wi1 σ2 H3 fun J1 H4 => ∃ W1 : Nat → Nat → Hp → Prop, (∃ m, W1 0 m H4) ∧ ∀ j k H, W1 j k H →
        (J1.stop j H ∧ Nx H) ∨ (J1.go j H ∧ ∃ Ny : Hp → Prop, (∀ H', Ny H' → ∃ k', k' < k ∧ W1 (j + 1) k' H') ∧ ∀ x H', J1.yld j H x H' → g1 x (wipe σ2 vs1) H' fun σ3 H5 => wipe σ3 vs1 = wipe σ2 vs1 ∧ tt1 σ3 H5 fun b H6 =>
          if b = true then te σ3 H6 fun y H7 => ∃ (z : Str) (S : Str → Bool) (n : Nat), y = .str z ∧ H7 D = some (SetTO P w D S n) ∧ n + 1 < scanBound ∧ Ny (L2.upd H7 D (SetTO P w D (fun k => S k || decide (k = z)) (if S z = true then n else n + 1))) else Ny H6)
      else Nx H3)
section
variable {X : Cx} {elt tg iter tg1 iter1 : Expr} {ifs ifs1 : List Expr} {scope : Scope} {own : List (Str × Nat)} {vs1 : List Nat} {pos : Pos} {wi wi1 : TI} {g g1 : TG} {tt tt1 : TT} {te : TE}
/-- the block's own context -/
abbrev Bk (X : Cx) (scope : Scope) (s : Shared) (H : Hp) (C : Addr) (cl : List (Str × Addr)) (fp : List Addr) : Cx := X.blk s H scope (compEnvC scope cl C X.env) fp
theorem pe_scT2 (hc : X.calm = true) (hN : X.N.Nodup) (hi : PI X tg iter wi) (ok : BlkOk X.N X.env.scope scope own) (hv : ∀ i ∈ vs1, i ∈ own.map (·.2))
    (hg : ∀ s H C cl fp, PG (Bk X scope s H C cl fp) tg g) (ht : ∀ s H C cl fp, PTs (Bk X scope s H C cl fp) ifs tt) (hi1 : ∀ s H C cl fp, PI (Bk X scope s H C cl fp) tg1 iter1 wi1)
    (hg1 : ∀ s H C cl fp, PG (Bk X scope s H C cl fp) tg1 g1) (ht1 : ∀ s H C cl fp, PTs (Bk X scope s H C cl fp) ifs1 tt1) (he : ∀ s H C cl fp, PE (Bk X scope s H C cl fp) elt te)
    (hs : ∀ x, foldedSetIterable iter X.env x = pure x := by intro _; rfl) (hs1 : ∀ env x, foldedSetIterable iter1 env x = pure x := by intro _ _; rfl) :
    PE X (sc2 elt tg iter tg1 iter1 ifs ifs1 scope pos) (tScT2 X.prog X.w wi g tt wi1 g1 tt1 te (own.map (·.2)) vs1) := by
  refine ⟨fun pins s σ H Q I h => ?_⟩
  rw [eval_SetComp]
  have cells : ∀ y ∈ scope.names, y.2 = .free → ∃ c, X.env.cells.lookup y.1 = some c := fun y hy e => (ok.free y hy e).elim (fun k => I.ok.has _ (.inl k)) fun k => I.ok.has _ (.inr k)
  refine wpAny_comprehension_free (use := none) rfl hs (closure_ok cells) ok.kind (fun y hy e => by rw [ok.uniq y hy, e]) (thn (hi.run pins s σ H _ I h) fun _ s1 h1 => thn h1 fun _ s2 h2 => ?_)
  obtain ⟨it, fp, at0, J, H2, rfl, I2, T, a2, f2, q⟩ := h2
  refine newSet_ok (newEnv_comp ?_)
  generalize eD : s2.heap.objs.size = D
  obtain ⟨W, ⟨m0, w0⟩, turn⟩ := q D (I2.hok.fresh (Nat.le_of_eq eD))
  generalize e3 : ({ s2 with heap := s2.heap.push { cls := .type "set", dict := none, data := .set #[] 0 (.fresh 0 0 (!X.w.params.followText "set-order")) } } : Shared) = s3
  generalize eH : L2.upd H2 D (SetTO X.prog X.w D (fun _ => false) 0) = H3 at w0
  have h3 : s3.heap = s2.heap.push { cls := .type "set", dict := none, data := .set #[] 0 (.fresh 0 0 (!X.w.params.followText "set-order")) } := by rw [← e3]
  have I3 : Inv X pins σ H3 s3 := by
    rw [← e3, ← eH, ← eD]
    exact I2.laid (t' := s2.toks) (fun _ _ e => Heap.get?_push_of_some _ e) (Nat.le_refl _) (setTO_new (setT_fresh X.prog X.w (Heap.get?_push_size _ rfl)))
  have f3 : ∀ b ∈ fp, FpOk X pins H3 b ∧ b < s3.heap.objs.size := fun b hb => by
    obtain ⟨o, eo, _⟩ := T.obj _ _ a2 b hb
    have lt := Heap.lt_size eo
    refine ⟨⟨?_, (f2 b hb).2⟩, by rw [h3, Heap.size_push]; exact Nat.lt_succ_of_lt lt⟩
    rw [← eH, upd_ne (by rw [← eD]; exact Nat.ne_of_lt lt)]
    exact (f2 b hb).1
  have a3 : at0 0 s3.heap := T.keep _ _ _ a2 fun _ _ _ e => by rw [h3]; exact Heap.get?_push_of_some _ e
  have I4 := block_start I3 ok hN f3
  generalize eC : cellsFrom (s3.heap.objs.size + 1) scope.names (cloFrom X.env.cells scope.names []) = cl at I4 ⊢
  have G : PG (X.blk s3 H3 scope (compEnvC scope cl s3.heap.objs.size X.env) fp) tg g := hg s3 H3 s3.heap.objs.size cl fp
  have Ts : PTs (X.blk s3 H3 scope (compEnvC scope cl s3.heap.objs.size X.env) fp) ifs tt := ht s3 H3 s3.heap.objs.size cl fp
  have It1 : PI (X.blk s3 H3 scope (compEnvC scope cl s3.heap.objs.size X.env) fp) tg1 iter1 wi1 := hi1 s3 H3 s3.heap.objs.size cl fp
  have G1 : PG (X.blk s3 H3 scope (compEnvC scope cl s3.heap.objs.size X.env) fp) tg1 g1 := hg1 s3 H3 s3.heap.objs.size cl fp
  have Ts1 : PTs (X.blk s3 H3 scope (compEnvC scope cl s3.heap.objs.size X.env) fp) ifs1 tt1 := ht1 s3 H3 s3.heap.objs.size cl fp
  have El : PE (X.blk s3 H3 scope (compEnvC scope cl s3.heap.objs.size X.env) fp) elt te := he s3 H3 s3.heap.objs.size cl fp
  have nf : ∀ b ∈ fp, H3 b = none := fun b hb => (f3 b hb).1.1
  show codeAny _ _ (.compStart (sc2 elt tg iter tg1 iter1 ifs ifs1 scope pos) 0 (.ref it) (.ref D) (compEnvC scope cl s3.heap.objs.size X.env)) (compPost (model X.prog X.w) X.A X.xe none (fun v s' => EP X pins σ Q v s') (.ref D) s3.heap.objs.size) { s3 with heap := pushCells (s3.heap.push { cls := .type "dict", data := .dict #[] }) scope.names }
  generalize e4 : ({ s3 with heap := pushCells (s3.heap.push { cls := .type "dict", data := .dict #[] }) scope.names } : Shared) = s4 at I4 ⊢
  have a4 : at0 0 s4.heap := T.keep _ _ _ a3 fun _ _ _ e => by rw [← e4]; exact pushCells_keeps _ _ _ _ (Heap.get?_push_of_some _ e)
  generalize eE : compEnvC scope cl s3.heap.objs.size X.env = ce at I4 G Ts It1 G1 Ts1 El ⊢
  have loc : ce.locals = s3.heap.objs.size := by subst eE; rfl
  -- what stands of an iterator's own things, within the block
  have own0 : ∀ {ps : List (Addr × Obj)} {σ' : L2.St} {H' : Hp} {s' : Shared}, Inv (X.blk s3 H3 scope ce fp) [] σ' H' s' → (∀ b ∈ fp, H' b = none) → ∀ b ∈ fp, FpOk (X.blk s3 H3 scope ce fp) [] H' b := fun {ps σ' H' s'} I' n b hb =>
    ⟨n b hb, (I'.ok.exf b hb).1, I'.ok.exfs b hb, .inl hb, (fun x c e => (I'.ok.exf b hb).2 x c e), fun p hp => absurd (show p ∈ ([] : List (Addr × Obj)) ++ [] from hp) (by simp)⟩
  let At : Nat → Shared → Prop := fun n s' => ∃ i H', Inv (X.blk s3 H3 scope ce fp) [] (wipe σ (own.map (·.2))) H' s' ∧ at0 i s'.heap ∧ (∀ b ∈ fp, H' b = none) ∧ W i n H'
  have main : codeAny (model X.prog X.w) X.A (.compLoop (sc2 elt tg iter tg1 iter1 ifs ifs1 scope pos) 0 (.ref it) (.ref D) ce) (compPost (model X.prog X.w) X.A X.xe none (fun v s' => EP X pins σ Q v s') (.ref D) s3.heap.objs.size) s4 := by
    refine sc2_loop0 (hs1 ce) At ?_ m0 ⟨0, H3, I4, a4, nf, w0⟩
    rintro n s5 ⟨i, H5, I5, a5, n5, w5⟩
    rcases turn i n H5 w5 with ⟨stop, fin⟩ | ⟨go, Nx, down, step⟩
    · refine thnF (T.done (X.blk s3 H3 scope ce fp) rfl rfl rfl hc i [] s5 _ H5 (fun _ _ => False) I5 (own0 (ps := []) I5 n5) a5 stop) fun r s6 ⟨er, I6⟩ => ?_
      subst er
      obtain ⟨m, hm, _⟩ := I6.loc
      have nC : H5 s3.heap.objs.size = none := by rw [← loc]; exact I6.free
      have I7 : Inv X pins σ H5 s6 := I3.call' (ch := fp) I6.os I6.base I6.hok I6.bare fun b hb => have z := (f3 b hb).1.2; ⟨z.2.2.1, z.1, z.2.2.2.1, z.2.2.2.2⟩
      obtain ⟨_, k1, _, k3, k4, k5⟩ := I3.fpOk (Nat.le_refl _) nC
      refine ⟨m, by rw [← loc]; exact hm, fun h'' sb => ?_⟩
      exact ⟨.ref D, H5, I7.turned (t' := s6.toks) (fun b o hb e => (sb.2 b hb).trans e) nC k1 k3 k4 k5, rfl, fin⟩
    · refine thnF (T.item (X.blk s3 H3 scope ce fp) rfl rfl rfl hc i [] s5 _ H5 (fun _ _ => False) I5 (own0 (ps := []) I5 n5) a5 go) fun r s6 ⟨u, er, h6⟩ => ?_
      subst er
      refine thnF h6 fun _ s7 ⟨x, H7, I7, r7, y7, a7, n7⟩ => ?_
      have P7 := I7.pinned (own0 (ps := []) I7 n7) (T.obj _ _ a7)
      refine thnF (G.run _ s7 _ H7 x u _ P7 r7 (step x H7 y7)) fun _ s8 ⟨σ8, H8, I8, e8, q8⟩ => ?_
      refine thnF (Ts.run _ s8 σ8 H8 _ I8 q8) fun b s9 ⟨H9, I9, q9⟩ => ?_
      have back : ∀ {σ9 : L2.St} {s' : Shared} {H' : Hp}, Inv (X.blk s3 H3 scope ce fp) ([] ++ pinsAt fp s7.heap) σ9 H' s' → (wipe σ (own.map (·.2))).length = σ9.length → (∀ (j : Nat) v, (wipe σ (own.map (·.2)))[j]? = some (some v) → σ9[j]? = some (some v)) → Nx H' →
          ∃ m, m < n ∧ At m s' := fun {σ9 s' H'} I' l k nx => by
        obtain ⟨m', lt, w'⟩ := down H' nx
        have st : ∀ b ∈ fp, ∀ o, s7.heap.get? b = some o → s'.heap.get? b = some o ∧ H' b = none := fun b hb o e =>
          have z := I'.pin (b, o) (List.mem_append_right _ (List.mem_append_right _ (mem_pinsAt hb e)))
          ⟨z.1, z.2.1⟩
        refine ⟨m', lt, i + 1, H', (I'.unpinned (pins := [])).weak l k, T.keep _ _ _ a7 fun b hb o e => (st b hb o e).1, fun b hb => ?_, w'⟩
        obtain ⟨o, e, _⟩ := T.obj _ _ a7 b hb
        exact (st b hb o e).2
      have len8 : (wipe σ (own.map (·.2))).length = σ8.length := by rw [← e8, wipe_length]
      have known8 : ∀ (j : Nat) v, (wipe σ (own.map (·.2)))[j]? = some (some v) → σ8[j]? = some (some v) := fun j v e => (wipe_some (by rw [e8]; exact e)).1
      cases b with
      | false =>
        rw [if_neg Bool.false_ne_true] at q9
        exact back I9 len8 known8 q9
      | true =>
        rw [if_pos rfl] at q9
        refine thnF (It1.run _ s9 σ8 H9 _ I9 q9) fun _ s10 h10 => thnF h10 fun _ s11 h11 => ?_
        obtain ⟨it1, fp1, at1, J1, H11, rfl, I11, T1, a11, f11, W1, ⟨m1, w1⟩, turn1⟩ := h11
        have own1 : ∀ {H' : Hp}, (∀ b ∈ fp1, H' b = none) → ∀ b ∈ fp1, FpOk (X.blk s3 H3 scope ce fp) ([] ++ pinsAt fp s7.heap) H' b := fun n b hb => ⟨n b hb, (f11 b hb).2⟩
        have inner : codeAny (model X.prog X.w) X.A (.compLoop (sc2 elt tg iter tg1 iter1 ifs ifs1 scope pos) 1 (.ref it1) (.ref D) ce) (fun r s' => match r with
              | .ok _ => ∃ m, m < n ∧ At m s'
              | .error _ => False) s11 := by
          refine sc2_loop1 (fun k s' => ∃ j H', Inv (X.blk s3 H3 scope ce fp) ([] ++ pinsAt fp s7.heap) (wipe σ8 vs1) H' s' ∧ at1 j s'.heap ∧ (∀ b ∈ fp1, H' b = none) ∧ W1 j k H') ?_ m1 ⟨0, H11, I11.weak (wipe_length _ _) (fun j v e => (wipe_some e).1), a11, (fun b hb => (f11 b hb).1), w1⟩
          rintro k s12 ⟨j, H12, I12, a12, n12, w12⟩
          rcases turn1 j k H12 w12 with ⟨stop1, nx1⟩ | ⟨go1, Ny, down1, step1⟩
          · refine thnF (T1.done (X.blk s3 H3 scope ce fp) rfl rfl rfl hc j _ s12 (wipe σ8 vs1) H12 (fun _ _ => False) I12 (own1 n12) a12 stop1) fun r s13 ⟨er, I13⟩ => ?_
            subst er
            refine back I13 (len8.trans (wipe_length σ8 vs1).symm) (fun j v e => ?_) nx1
            obtain ⟨z1, z2⟩ := wipe_some (by rw [e8]; exact e)
            rw [wipe_out fun z => z2 (hv j z)]
            exact z1
          · refine thnF (T1.item (X.blk s3 H3 scope ce fp) rfl rfl rfl hc j _ s12 (wipe σ8 vs1) H12 (fun _ _ => False) I12 (own1 n12) a12 go1) fun r s13 ⟨u1, er, h13⟩ => ?_
            subst er
            refine thnF h13 fun _ s14 ⟨x1, H14, I14, r14, y14, a14, n14⟩ => ?_
            refine thnF (G1.run _ s14 (wipe σ8 vs1) H14 x1 u1 _ (I14.pinned (own1 n14) (T1.obj _ _ a14)) r14 (step1 x1 H14 y14)) fun _ s15 ⟨σ15, H15, I15, e15, q15⟩ => ?_
            refine thnF (Ts1.run _ s15 σ15 H15 _ I15 q15) fun b1 s16 ⟨H16, I16, q16⟩ => ?_
            have back1 : ∀ {s' : Shared} {H' : Hp}, Inv (X.blk s3 H3 scope ce fp) (([] ++ pinsAt fp s7.heap) ++ pinsAt fp1 s14.heap) σ15 H' s' → Ny H' →
                ∃ m, m < k ∧ ∃ j H', Inv (X.blk s3 H3 scope ce fp) ([] ++ pinsAt fp s7.heap) (wipe σ8 vs1) H' s' ∧ at1 j s'.heap ∧ (∀ b ∈ fp1, H' b = none) ∧ W1 j m H' := fun {s' H'} I' nx => by
              obtain ⟨m', lt, w'⟩ := down1 H' nx
              have st : ∀ b ∈ fp1, ∀ o, s14.heap.get? b = some o → s'.heap.get? b = some o ∧ H' b = none := fun b hb o e =>
                have z := I'.pin (b, o) (List.mem_append_right _ (List.mem_append_right _ (mem_pinsAt hb e)))
                ⟨z.1, z.2.1⟩
              refine ⟨m', lt, j + 1, H', I'.unpinned.weak (by rw [← e15, wipe_length]) (fun j v e => (wipe_some (by rw [e15]; exact e)).1), T1.keep _ _ _ a14 fun b hb o e => (st b hb o e).1, fun b hb => ?_, w'⟩
              obtain ⟨o, e, _⟩ := T1.obj _ _ a14 b hb
              exact (st b hb o e).2
            cases b1 with
            | false =>
              rw [if_neg Bool.false_ne_true] at q16
              exact back1 I16 q16
            | true =>
              rw [if_pos rfl] at q16
              refine thnF (El.run _ s16 σ15 H16 _ I16 q16) fun v s17 ⟨yv, H17, I17, r17, z, S, c, ey, eD17, room, nx⟩ => ?_
              subst ey
              obtain ⟨tk, rfl⟩ := r17
              exact addT_ok (X := X.blk s3 H3 scope ce fp) I17 eD17 room fun s18 I18 => back1 I18 nx
        exact sc2_start 1 (.inr rfl) inner (T1.self X.A 0 _ _ _ a11 inner)
  exact sc2_start 0 (.inl rfl) main (T.self X.A 0 _ _ _ a4 main)
end
end LW
/-! Several dicts locked while an expression runs. -/
namespace LW
open PySem PySem.Spec PyProof.Rows L2 GxR
def tLk (t : TE) : List Addr → TE
  | [] => t
  | d :: ds => tLockE1 d (tLk t ds)
where tLockE1 (d : Addr) (t : TE) : TE := fun σ H Q => ∃ u, H d = some u ∧ Mut (some u) ∧ ∀ od, t σ (L2.upd H d (.frz od u)) fun v H' => H' d = some (.frz od u) ∧ Q v (L2.upd H' d u)
/-- the reading chooses the dicts -/
def tLocks (t : TE) : TE := fun σ H Q => ∃ ds, tLk t ds σ H Q
theorem pe_locks {X : Cx} {e : Expr} {t : TE} (h : PE X e t) : PE X e (tLocks t) := by
  refine ⟨fun pins s σ H Q I ⟨ds, q⟩ => ?_⟩
  have all : ∀ ds : List Addr, PE X e (tLk t ds) := fun ds => by
    induction ds with
    | nil => exact h
    | cons d ds ih => exact ⟨fun pins s σ H Q I ⟨u, e1, e2, q⟩ => (pe_lock ih).run pins s σ H Q I ⟨d, u, e1, e2, q⟩⟩
  exact (all ds).run pins s σ H Q I q
/-- the heap with the dicts ds as they were in H -/
def back (ds : List Addr) (H H' : Hp) : Hp := fun b => if b ∈ ds then H b else H' b
theorem lk_all {t : TE} {σ : L2.St} : ∀ (ds : List Addr) (H : Hp) (Q : VK), ds.Nodup → (∀ d ∈ ds, ∃ kvs, H d = some (.dK kvs)) →
    (∀ H2 : Hp, (∀ b, b ∉ ds → H2 b = H b) → (∀ d ∈ ds, ∀ kvs, H d = some (.dK kvs) → ∃ o, H2 d = some (.frz o (.dK kvs))) → t σ H2 (fun v H' => (∀ d ∈ ds, H' d = H2 d) ∧ Q v (back ds H H'))) → tLk t ds σ H Q := by
  intro ds
  induction ds with
  | nil =>
    intro H Q _ _ k
    have e : (fun (v : V) (H' : Hp) => (∀ d ∈ ([] : List Addr), H' d = H d) ∧ Q v (back [] H H')) = Q := by
      funext v H'
      apply propext
      have : back [] H H' = H' := by funext b; unfold back; simp
      rw [this]
      exact ⟨fun z => z.2, fun z => ⟨by simp, z⟩⟩
    have := k H (fun _ _ => rfl) (fun d hd => by simp at hd)
    rw [e] at this
    exact this
  | cons d ds ih =>
    intro H Q nd hk k
    obtain ⟨n1, n2⟩ := List.nodup_cons.mp nd
    obtain ⟨kvs, hd⟩ := hk d List.mem_cons_self
    refine ⟨.dK kvs, hd, True.intro, fun od => ?_⟩
    have ne : ∀ {b}, b ∈ ds → b ≠ d := fun hb e => n1 (e ▸ hb)
    refine ih _ _ n2 (fun b hb => ?_) (fun H2 a1 a2 => ?_)
    · obtain ⟨kv, e⟩ := hk b (List.mem_cons_of_mem _ hb)
      exact ⟨kv, by rw [upd_ne (ne hb)]; exact e⟩
    · have hd2 : H2 d = some (.frz od (.dK kvs)) := by rw [a1 d n1, upd_same]
      have q := k H2 (fun b hb => by
        rw [a1 b fun z => hb (List.mem_cons_of_mem _ z), upd_ne fun z => hb (by rw [z]; exact List.mem_cons_self)]) (fun b hb kv e => by
        rcases List.mem_cons.mp hb with rfl | hb
        · rw [hd] at e
          cases e
          exact ⟨od, hd2⟩
        · exact a2 b hb kv (by rw [upd_ne (ne hb)]; exact e))
      have e : (fun (v : V) (H' : Hp) => (∀ b ∈ d :: ds, H' b = H2 b) ∧ Q v (back (d :: ds) H H')) = fun v H' => (∀ b ∈ ds, H' b = H2 b) ∧ ((back ds (L2.upd H d (.frz od (.dK kvs))) H') d = some (.frz od (.dK kvs)) ∧ Q v (L2.upd (back ds (L2.upd H d (.frz od (.dK kvs))) H') d (.dK kvs))) := by
        funext v H'
        apply propext
        have e1 : (back ds (L2.upd H d (.frz od (.dK kvs))) H') d = H' d := by unfold back; rw [if_neg n1]
        have e2 : L2.upd (back ds (L2.upd H d (.frz od (.dK kvs))) H') d (.dK kvs) = back (d :: ds) H H' := by
          funext b
          by_cases hb : b = d
          · subst hb
            rw [upd_same]
            unfold back
            rw [if_pos List.mem_cons_self, hd]
          · rw [upd_ne hb]
            unfold back
            by_cases hm : b ∈ ds
            · rw [if_pos hm, if_pos (List.mem_cons_of_mem _ hm), upd_ne hb]
            · rw [if_neg hm, if_neg (fun z => (List.mem_cons.mp z).elim hb hm)]
        rw [e1, e2]
        constructor
        · rintro ⟨z1, z2⟩
          exact ⟨fun b hb => z1 b (List.mem_cons_of_mem _ hb), (z1 d List.mem_cons_self).trans hd2, z2⟩
        · rintro ⟨z1, z2, z3⟩
          exact ⟨fun b hb => by
            rcases List.mem_cons.mp hb with rfl | hb
            · exact z2.trans hd2.symm
            · exact z1 b hb, z3⟩
      rw [e] at q
      exact q
end LW
namespace LW
open PySem PySem.Spec PyProof.Rows L2 GxR
/-- a walk by its invariant, whatever is done with an item -/
theorem walk_inv {J : It} {n : Nat} {G : Hp → Prop} {Y : Nat → Hp → V → Hp → Prop} (w : Walk J n G Y) {Body : V → Hp → (Hp → Prop) → Prop} {H0 : Hp} {Qd : Hp → Prop} (Pv : Nat → Hp → Prop) (h0 : Pv 0 H0) (hG : ∀ i H, i ≤ n → Pv i H → G H)
    (hs : ∀ i x H H', i < n → Pv i H → Y i H x H' → Body x H' (Pv (i + 1))) (hd : ∀ H, Pv n H → Qd H) :
    ∃ W : Nat → Nat → Hp → Prop, (∃ m, W 0 m H0) ∧ ∀ i m H, W i m H → (J.stop i H ∧ Qd H) ∨ (J.go i H ∧ ∃ Nx : Hp → Prop, (∀ H', Nx H' → ∃ m', m' < m ∧ W (i + 1) m' H') ∧ ∀ x H', J.yld i H x H' → Body x H' Nx) := by
  refine ⟨fun i m H => m = n - i ∧ i ≤ n ∧ Pv i H, ⟨n, rfl, Nat.zero_le _, h0⟩, ?_⟩
  rintro i m H ⟨rfl, hi, p⟩
  have g := hG i H hi p
  by_cases lt : i < n
  · exact .inr ⟨w.goes i H lt g, Pv (i + 1), fun H' p' => ⟨n - (i + 1), by omega, rfl, lt, p'⟩, fun x H' y => hs i x H H' lt p (w.yields i H x H' lt g y)⟩
  · obtain rfl : i = n := by omega
    exact .inl ⟨w.stops H g, hd H p⟩
end LW
namespace LW
open PySem PySem.Spec PyProof.Rows L2 GxR
/-- all is kept but the law's state -/
structure Mv (a c : Addr) (H H' : Hp) : Prop where
  keep : ∀ b o, b ≠ a → b ≠ c → H b = some o → H' b = some o
  free : ∀ b, H' b = none → H b = none
theorem Mv.refl (a c : Addr) (H : Hp) : Mv a c H H := ⟨fun _ _ _ _ e => e, fun _ n => n⟩
theorem Mv.trans {a c : Addr} {H H1 H2 : Hp} (m : Mv a c H H1) (n : Mv a c H1 H2) : Mv a c H H2 := ⟨fun b o h1 h2 e => n.keep b o h1 h2 (m.keep b o h1 h2 e), fun b z => m.free b (n.free b z)⟩
theorem Mv.same {a c : Addr} {H H' : Hp} (s : Same H H') : Mv a c H H' := ⟨fun b o _ _ e => s b o e, fun b n => s.free n⟩
theorem Mv.take {a c : Addr} {H H' : Hp} (s : SL H a c) (s' : SL H' a c) (e : ∀ b, b ≠ a → b ≠ c → H' b = H b) : Mv a c H H' := ⟨fun b o h1 h2 z => by rw [e b h1 h2]; exact z, fun b z => by
  by_cases h1 : b = a
  · obtain ⟨n, cs, q, _⟩ := s'
    rw [h1, q] at z; cases z
  · by_cases h2 : b = c
    · obtain ⟨n, cs, _, q, _⟩ := s'
      rw [h2, q] at z; cases z
    · rw [← e b h1 h2]; exact z⟩
theorem Mv.new {a c : Addr} {H H' : Hp} {p : Addr} {o : HO} (m : Mv a c H H') (n : H p = none) : Mv a c H (L2.upd H' p o) := ⟨fun b u h1 h2 e => by rw [upd_ne (ne_of_none e n)]; exact m.keep b u h1 h2 e, fun b z => by
  by_cases h : b = p
  · rw [h]; exact n
  · rw [upd_ne h] at z; exact m.free b z⟩
theorem Mv.tab {a c : Addr} {H H' : Hp} {B : Addr} (m : Mv a c H H') (s : SL H a c) (t : TabG H B) : TabG H' B := by
  have n := s.tab t
  obtain ⟨ps, e, r⟩ := t
  exact ⟨ps, m.keep _ _ n.1 n.2 e, r⟩
theorem join_one (xs : List Nat) : TL.tl (Txt.join (Str.ofString "") (xs.map fun c => (⟨#[c]⟩ : Str))) = xs := by
  rw [TL.join_eq, TL.tl_join, tl_empty, joinL_nil, List.map_map]
  induction xs with
  | nil => rfl
  | cons z r ih =>
    rw [List.map_cons, List.flatten_cons, ih]
    rfl
/-- the signs of a drawn text -/
def drawn : List Nat := [97, 98, 99, 88, 89, 32, 48, 49]
theorem drawn_eq : (Str.ofString "abcXY 01").cps.toList = drawn := by decide +kernel
/-- a text at will, of at most m signs -/
def spText : Sp := fun vs H Q _ => ∃ (a c : Addr) (m : Nat), vs = [.ref a, .int (m : Int)] ∧ SL H a c ∧ m < 1000 ∧ ∀ x H', x.length ≤ m → (∀ z ∈ x.cps.toList, z ∈ drawn) → SL H' a c → Mv a c H H' → Q (.str x) H'
/-- all is kept but at the addresses F -/
structure Kp (F : Addr → Prop) (H H' : Hp) : Prop where
  keep : ∀ b o, ¬ F b → H b = some o → H' b = some o
  free : ∀ b, H' b = none → H b = none
theorem Kp.refl (F : Addr → Prop) (H : Hp) : Kp F H H := ⟨fun _ _ _ e => e, fun _ n => n⟩
theorem Kp.trans {F : Addr → Prop} {H H1 H2 : Hp} (m : Kp F H H1) (n : Kp F H1 H2) : Kp F H H2 := ⟨fun b o h e => n.keep b o h (m.keep b o h e), fun b z => m.free b (n.free b z)⟩
theorem Kp.weak {F G : Addr → Prop} {H H' : Hp} (m : Kp F H H') (h : ∀ b, F b → G b) : Kp G H H' := ⟨fun b o n e => m.keep b o (fun z => n (h b z)) e, m.free⟩
theorem Kp.same {F : Addr → Prop} {H H' : Hp} (s : Same H H') : Kp F H H' := ⟨fun b o _ e => s b o e, fun b n => s.free n⟩
theorem Kp.mv {a c : Addr} {F : Addr → Prop} {H H' : Hp} (m : Mv a c H H') (ha : F a) (hc : F c) : Kp F H H' := ⟨fun b o n e => m.keep b o (fun z => n (z ▸ ha)) (fun z => n (z ▸ hc)) e, m.free⟩
theorem Kp.new {F : Addr → Prop} {H H' : Hp} {p : Addr} {o : HO} (m : Kp F H H') (n : H' p = none) : Kp F H (L2.upd H' p o) := m.trans (.same (same_upd n))
theorem Kp.put {F : Addr → Prop} {H H' : Hp} {p : Addr} {o : HO} (m : Kp F H H') (h : F p) (n : H' p ≠ none) : Kp F H (L2.upd H' p o) := m.trans ⟨fun b u nb e => by
  rw [upd_ne (show b ≠ p from fun z => nb (by rw [z]; exact h))]; exact e, fun b z => by
  by_cases e : b = p
  · rw [e, upd_same] at z; cases z
  · rw [upd_ne e] at z; exact z⟩
theorem kp_take {a c : Addr} {H H' : Hp} (s : SL H a c) (s' : SL H' a c) (e : ∀ b, b ≠ a → b ≠ c → H' b = H b) : Kp (fun b => b = a ∨ b = c) H H' := .mv (Mv.take s s' e) (.inl rfl) (.inr rfl)
end LW
namespace LW
open PySem PySem.Spec PyProof.Rows L2 GxR
theorem dp_txt {K : PySem.W.Frag} {H : Hp} : ∀ ls : List Str, DpAll K H (ls.map V.str) (ls.map PyData.str)
  | [] => .nil
  | x :: r => .cons (.str x) (dp_txt r)
theorem dp_num {K : PySem.W.Frag} {H : Hp} : ∀ ls : List Int, DpAll K H (ls.map V.int) (ls.map PyData.int)
  | [] => .nil
  | x :: r => .cons (.int x) (dp_num r)
theorem lay_txt : ∀ ls : List Str, (∀ x ∈ ls, PyData.strOk x = true) → PyData.canLayAll0 (ls.map PyData.str) = true ∧ PyData.depthAll (ls.map PyData.str) = 0
  | [], _ => ⟨rfl, rfl⟩
  | x :: r, h => by
    have ih := lay_txt r fun y hy => h y (List.mem_cons_of_mem _ hy)
    constructor
    · rw [List.map_cons, PyData.canLayAll0, ih.1, PyData.canLay0, h x List.mem_cons_self]; rfl
    · rw [List.map_cons, PyData.depthAll, ih.2, PyData.depth]; rfl
theorem lay_num : ∀ ls : List Int, PyData.canLayAll0 (ls.map PyData.int) = true ∧ PyData.depthAll (ls.map PyData.int) = 0
  | [] => ⟨rfl, rfl⟩
  | x :: r => by
    have ih := lay_num r
    constructor
    · rw [List.map_cons, PyData.canLayAll0, ih.1, PyData.canLay0]; rfl
    · rw [List.map_cons, PyData.depthAll, ih.2, PyData.depth]; rfl
theorem shaped_txt {ls : List Str} (h : ∀ x ∈ ls, PyData.strOk x = true) : SeqAt.shaped (.list (ls.map PyData.str)) = true := by
  have l := lay_txt ls h
  unfold SeqAt.shaped
  rw [PyData.canLay0, l.1, PyData.depth, l.2]
  rfl
theorem shaped_num {ls : List Int} : SeqAt.shaped (.list (ls.map PyData.int)) = true := by
  have l := lay_num ls
  unfold SeqAt.shaped
  rw [PyData.canLay0, l.1, PyData.depth, l.2]
  rfl
theorem same_txt {ls : List Str} (h : ∀ x ∈ ls, PyData.strOk x = true) : PyData.eqv (.list (ls.map PyData.str)) (.list (ls.map PyData.str)) = true := SeqAt.eqv_refl _ (by rw [PyData.canLay0]; exact (lay_txt ls h).1)
theorem same_num {ls : List Int} : PyData.eqv (.list (ls.map PyData.int)) (.list (ls.map PyData.int)) = true := SeqAt.eqv_refl _ (by rw [PyData.canLay0]; exact (lay_num ls).1)
end LW
namespace LW
open PySem PySem.Spec PyProof.Rows L2 GxR
/-! ### list(text) -/
def signs (z : Str) : List V := z.cps.toList.map fun c => V.str ⟨#[c]⟩
theorem signs_of {z : Str} {acc : Array Value} (h : ItemsOf (SignAt z) acc z.cps.size) : Vals (signs z) acc.toList := by
  have key : ∀ (cs : List Nat) (vs : List Value), cs.length = vs.length → (∀ (j : Nat) (v : Value), vs[j]? = some v → ∃ c u, cs[j]? = some c ∧ v = .str ⟨#[c]⟩ u) → Vals (cs.map fun c => V.str ⟨#[c]⟩) vs := by
    intro cs
    induction cs with
    | nil =>
      intro vs hl _
      cases vs with
      | nil => exact .nil
      | cons v r => cases hl
    | cons c cs ih =>
      intro vs hl hv
      cases vs with
      | nil => cases hl
      | cons v r =>
        obtain ⟨c', u, e1, e2⟩ := hv 0 v rfl
        cases e1
        exact .cons ⟨u, e2⟩ (ih r (by simpa using hl) fun j w hj => hv (j + 1) w hj)
  refine key z.cps.toList acc.toList ?_ fun j v hj => ?_
  · rw [Array.length_toList, Array.length_toList]; exact h.1.symm
  · obtain ⟨c, u, e1, e2⟩ := h.2 j v (by rw [← Array.getElem?_toList]; exact hj)
    exact ⟨c, u, by rw [Array.getElem?_toList]; exact e1, e2⟩
theorem call_listS {X : Cx} (hc : X.calm = true) : CallR X (.type "list") (fun xs H Q => ∃ z, xs = [.str z] ∧ z.length ≤ sizeLine ∧ ∀ l, H l = none → Q (.ref l) (L2.upd H l (.lst (signs z)))) := by
  intro pins s σ H xs us Q I r h
  obtain ⟨z, rfl, hz, q⟩ := h
  obtain ⟨u, rfl, rx⟩ := vals1 r
  obtain ⟨t, rfl⟩ := rx
  refine call_list_str (I.ok.hd hc) z t (fun h' tk acc' c' kp hS hit => ?_) (hn := hz)
  have hlen : (signs z).length ≤ sizeLine := by
    unfold signs
    rw [List.length_map, Array.length_toList]
    exact hz
  exact ⟨.ref s.heap.objs.size, _, I.laid (t' := tk) kp (Nat.le_refl _) (show ObjOk X.prog X.w _ h' _ (.lst (signs z)) from ⟨hlen, acc'.toList, c', signs_of hit, hS⟩), rfl, q _ (I.hok.fresh (Nat.le_refl _))⟩
end LW
namespace LW
open PySem PySem.Spec PyProof.Rows L2 GxR
/-! ### texts and numbers as data -/
def kD : Key → PyData
  | .inl i => .int i
  | .inr x => .str x
def kOk : Key → Prop
  | .inl _ => True
  | .inr x => PyData.strOk x = true
theorem dp_keys {K : PySem.W.Frag} {H : Hp} : ∀ ks : List Key, DpAll K H (ks.map kV) (ks.map kD)
  | [] => .nil
  | .inl i :: r => .cons (.int i) (dp_keys r)
  | .inr x :: r => .cons (.str x) (dp_keys r)
theorem lay_keys : ∀ ks : List Key, (∀ k ∈ ks, kOk k) → PyData.canLayAll0 (ks.map kD) = true ∧ PyData.depthAll (ks.map kD) = 0
  | [], _ => ⟨rfl, rfl⟩
  | k :: r, h => by
    have ih := lay_keys r fun y hy => h y (List.mem_cons_of_mem _ hy)
    have hk := h k List.mem_cons_self
    cases k with
    | inl i =>
      constructor
      · rw [List.map_cons, PyData.canLayAll0, ih.1]; rfl
      · rw [List.map_cons, PyData.depthAll, ih.2]; rfl
    | inr x =>
      constructor
      · rw [List.map_cons, PyData.canLayAll0, ih.1]
        show (PyData.canLay0 (.str x) && true) = true
        rw [PyData.canLay0, show PyData.strOk x = true from hk]; rfl
      · rw [List.map_cons, PyData.depthAll, ih.2]; rfl
theorem lay_tup {ds : List PyData} {n : Nat} (h : PyData.canLayAll0 ds = true ∧ PyData.depthAll ds ≤ n) : PyData.canLay0 (.tuple ds) = true ∧ PyData.depth (.tuple ds) ≤ n + 1 := ⟨by rw [PyData.canLay0]; exact h.1, by rw [PyData.depth]; omega⟩
theorem lay_lst {ds : List PyData} {n : Nat} (h : PyData.canLayAll0 ds = true ∧ PyData.depthAll ds ≤ n) : PyData.canLay0 (.list ds) = true ∧ PyData.depth (.list ds) ≤ n + 1 := ⟨by rw [PyData.canLay0]; exact h.1, by rw [PyData.depth]; omega⟩
theorem lay_all {n : Nat} : ∀ ds : List PyData, (∀ d ∈ ds, PyData.canLay0 d = true ∧ PyData.depth d ≤ n) → PyData.canLayAll0 ds = true ∧ PyData.depthAll ds ≤ n
  | [], _ => ⟨rfl, Nat.zero_le _⟩
  | d :: r, h => by
    have ih := lay_all r fun y hy => h y (List.mem_cons_of_mem _ hy)
    have hd := h d List.mem_cons_self
    constructor
    · rw [PyData.canLayAll0, ih.1, hd.1]; rfl
    · rw [PyData.depthAll]; omega
theorem shaped_of {d : PyData} {n : Nat} (h : PyData.canLay0 d = true ∧ PyData.depth d ≤ n) (hn : n ≤ 60) : SeqAt.shaped d = true := by
  unfold SeqAt.shaped
  rw [h.1, decide_eq_true (show d.depth ≤ 64 by omega)]; rfl
end LW
namespace LW
open PySem PySem.Spec PyProof.Rows L2 GxR
def topS (i : Nat) : Stmt := PySem.Challenge.pw_layerwharf_k20_wire.main.body.getD i (.Pass ⟨0, 0, 0, 0⟩)
/-- the places of the texts: a written dict -/
structure TatAt (K : PySem.W.Frag) (w : World) (mg : Str → Option Value) : Prop where
  ex : ∃ d, mg "_TEXT_AT" = some (.ref d) ∧ (∃ es n, KDict K w d es n) ∧ KDct K w d "part" (.int 3) ∧ KDct K w d "put" (.int 3) ∧ KDct K w d "piece" (.int 4) ∧
    ∀ z ∈ (["open", "kept", "name", "look", "wrong", "have"] : List Str), PySem.W.nsIn K d z = some none
structure Tx (K : PySem.W.Frag) (w : World) (mg : Str → Option Value) (cW : Addr) : Prop where
  z_abs : mg "abs" = none
  z_int : mg "int" = none
  z_len : mg "len" = none
  z_list : mg "list" = none
  z_range : mg "range" = none
  z_repr : mg "repr" = none
  cM : ∃ u, mg "MOST_LETTERS" = some (.int 60 u)
  tat : TatAt K w mg
  gW : mg "Wire" = some (.ref cW)
  clW : Cls K cW
  nWl : NoAttr K cW "letters"
def flW (l : Addr) : List (Str × V) := [("letters", .ref l)]
theorem seqIx {i n : Nat} (h : i < n) : seqIndex? (i : Int) n = some i := seqIndex_of (by omega) (by omega)
section
variable {P : Program} {w : World} {K : PySem.W.Frag} {mg : Str → Option Value} {base : Heap} {cW : Addr}
abbrev s_Wire___init : Stmt := inClass (topS 3) 0
abbrev N_Wire___init : List Str := ["self"]
abbrev P_Wire___init : List Str := ["self"]
theorem sc_Wire___init : FnScope N_Wire___init P_Wire___init (defScope s_Wire___init) := ⟨rfl, rfl, rfl, by decide +kernel, rfl, by decide +kernel, by decide +kernel⟩
def sp_Wire___init (C : Addr) : Sp := fun vs H Q _ => ∃ (o dx : Addr), vs = [.ref o] ∧ H o = some (.ins C dx []) ∧ ∀ l, H l = none → Q .non (L2.upd (L2.upd H l (.lst [])) o (.ins C dx (flW l)))
theorem ok_Wire___init {f : Addr} {fd : FuncData} (F : Fun K "__init__" "Wire.__init__" s_Wire___init f fd) (T : Tx K w mg cW) : FnOk P w K mg base CX0 1 f fd P_Wire___init (sp_Wire___init cW) := by
  refine F.ok sc_Wire___init (fun vs H Q E h => ?_) (fun cdv A outer s H vs Q E hr h => ?_)
  · obtain ⟨_, _, rfl, _⟩ := h
    rfl
  · obtain ⟨o, dx, rfl, ho, q⟩ := h
    have nd := sc_Wire___init.nd
    refine ⟨_, pss_one (ps_fld (pv 0) (pe_lst pa_nil) rfl), ?_⟩
    exact ⟨Nat.zero_le _, fun l nl => ⟨_, rfl, o, cW, dx, [], rfl, by rw [upd_ne (ne_of_none ho nl)]; exact ho, T.clW, T.nWl, by decide, q l nl⟩⟩
abbrev s_Wire_send : Stmt := inClass (topS 3) 1
abbrev N_Wire_send : List Str := ["self", "letter"]
abbrev P_Wire_send : List Str := ["self", "letter"]
theorem sc_Wire_send : FnScope N_Wire_send P_Wire_send (defScope s_Wire_send) := ⟨rfl, rfl, rfl, by decide +kernel, rfl, by decide +kernel, by decide +kernel⟩
def sp_Wire_send (C : Addr) : Sp := fun vs H Q _ => ∃ (o dx l : Addr) (xs : List V) (y : V), vs = [.ref o, y] ∧ H o = some (.ins C dx (flW l)) ∧ H l = some (.lst xs) ∧ xs.length ≤ 60 ∧
  (xs.length = 60 → Q (.bl false) H) ∧ (xs.length < 60 → Q (.bl true) (L2.upd H l (.lst (xs ++ [y]))))
theorem ok_Wire_send {f : Addr} {fd : FuncData} (F : Fun K "send" "Wire.send" s_Wire_send f fd) (T : Tx K w mg cW) : FnOk P w K mg base CX0 1 f fd P_Wire_send (sp_Wire_send cW) := by
  refine F.ok sc_Wire_send (fun vs H Q E h => ?_) (fun cdv A outer s H vs Q E hr h => ?_)
  · obtain ⟨_, _, _, _, _, rfl, _⟩ := h
    rfl
  · obtain ⟨o, dx, l, xs, y, rfl, ho, hl, h60, q1, q2⟩ := h
    have nd := sc_Wire_send.nd
    refine ⟨_, pss_cons (ps_if (pt_cmpR op_ge (pe_callB call_len_seq (by rfl) T.z_len (by decide +kernel) (pa_cons (pe_fld (pv 0) rfl) pa_nil)) (pe_gint T.cM) (nomark _))
    (pss_one (ps_ret pe_bl))
    (pss_nil))
  (pss_cons (ps_expr (pe_bm PySem.F.plainAttrs_list PySem.F.slot_list_append PySem.F.type_list_append mt_append (pe_fld (pv 0) rfl) (pa_cons (pv 1) pa_nil)))
  (pss_one (ps_ret pe_bl))), ?_⟩
    refine ⟨_, rfl, o, cW, dx, _, _, rfl, ho, T.clW, T.nWl, rfl, l, xs, rfl, .inl (SqL.of hl), _, _, rfl, rfl, _, rfl, ite2 (fun h => ?_) (fun h => ?_)⟩
    · exact q1 (by have := of_decide_eq_true h; omega)
    · have hlt : xs.length < 60 := by have := of_decide_eq_false (Bool.eq_false_iff.mpr h); omega
      exact ⟨_, rfl, o, cW, dx, _, _, rfl, ho, T.clW, T.nWl, rfl, .inl ⟨rfl, _, SqL.of hl⟩, _, rfl, l, xs, _, rfl, rfl, hl, Nat.lt_trans hlt (by decide), q2 hlt⟩
abbrev s_Wire_deliver : Stmt := inClass (topS 3) 2
abbrev N_Wire_deliver : List Str := ["self", "index"]
abbrev P_Wire_deliver : List Str := ["self", "index"]
theorem sc_Wire_deliver : FnScope N_Wire_deliver P_Wire_deliver (defScope s_Wire_deliver) := ⟨rfl, rfl, rfl, by decide +kernel, rfl, by decide +kernel, by decide +kernel⟩
def sp_Wire_deliver (C : Addr) : Sp := fun vs H Q _ => ∃ (o dx l : Addr) (xs : List V) (y : V) (i : Nat), vs = [.ref o, .int (i : Int)] ∧ H o = some (.ins C dx (flW l)) ∧ H l = some (.lst xs) ∧ xs.length ≤ 60 ∧ xs[i]? = some y ∧ Q y (L2.upd H l (.lst (xs.eraseIdx i)))
theorem ok_Wire_deliver {f : Addr} {fd : FuncData} (F : Fun K "deliver" "Wire.deliver" s_Wire_deliver f fd) (T : Tx K w mg cW) : FnOk P w K mg base CX0 1 f fd P_Wire_deliver (sp_Wire_deliver cW) := by
  refine F.ok sc_Wire_deliver (fun vs H Q E h => ?_) (fun cdv A outer s H vs Q E hr h => ?_)
  · obtain ⟨_, _, _, _, _, _, rfl, _⟩ := h
    rfl
  · obtain ⟨o, dx, l, xs, y, i, rfl, ho, hl, h60, hy, q⟩ := h
    have nd := sc_Wire_deliver.nd
    have hi : i < xs.length := (List.getElem?_eq_some_iff.mp hy).1
    refine ⟨_, pss_one (ps_ret (pe_bm PySem.F.plainAttrs_list PySem.F.slot_list_pop PySem.F.type_list_pop mt_popAt (pe_fld (pv 0) rfl) (pa_cons (pv 1) pa_nil))), ?_⟩
    exact ⟨_, rfl, o, cW, dx, _, _, rfl, ho, T.clW, T.nWl, rfl, .inl ⟨rfl, _, SqL.of hl⟩, _, rfl, l, xs, _, i, y, rfl, rfl, hl, by omega, by omega, seqIx hi, hy, q⟩
abbrev s_Wire_lose : Stmt := inClass (topS 3) 3
abbrev N_Wire_lose : List Str := ["self", "index"]
abbrev P_Wire_lose : List Str := ["self", "index"]
theorem sc_Wire_lose : FnScope N_Wire_lose P_Wire_lose (defScope s_Wire_lose) := ⟨rfl, rfl, rfl, by decide +kernel, rfl, by decide +kernel, by decide +kernel⟩
def sp_Wire_lose (C : Addr) : Sp := fun vs H Q _ => ∃ (o dx l : Addr) (xs : List V) (i : Nat), vs = [.ref o, .int (i : Int)] ∧ H o = some (.ins C dx (flW l)) ∧ H l = some (.lst xs) ∧ xs.length ≤ 60 ∧ i < xs.length ∧ Q .non (L2.upd H l (.lst (xs.eraseIdx i)))
theorem ok_Wire_lose {f : Addr} {fd : FuncData} (F : Fun K "lose" "Wire.lose" s_Wire_lose f fd) (T : Tx K w mg cW) : FnOk P w K mg base CX0 1 f fd P_Wire_lose (sp_Wire_lose cW) := by
  refine F.ok sc_Wire_lose (fun vs H Q E h => ?_) (fun cdv A outer s H vs Q E hr h => ?_)
  · obtain ⟨_, _, _, _, _, rfl, _⟩ := h
    rfl
  · obtain ⟨o, dx, l, xs, i, rfl, ho, hl, h60, hi, q⟩ := h
    have nd := sc_Wire_lose.nd
    refine ⟨_, pss_one (ps_delL (pe_fld (pv 0) rfl) (pv 1)), ?_⟩
    exact ⟨_, rfl, o, cW, dx, _, _, rfl, ho, T.clW, T.nWl, rfl, _, rfl, l, xs, _, i, rfl, rfl, hl, by omega, by omega, seqIx hi, q⟩
abbrev s_Wire_double : Stmt := inClass (topS 3) 4
abbrev N_Wire_double : List Str := ["self", "index"]
abbrev P_Wire_double : List Str := ["self", "index"]
theorem sc_Wire_double : FnScope N_Wire_double P_Wire_double (defScope s_Wire_double) := ⟨rfl, rfl, rfl, by decide +kernel, rfl, by decide +kernel, by decide +kernel⟩
def sp_Wire_double (C : Addr) : Sp := fun vs H Q _ => ∃ (o dx l : Addr) (xs : List V) (y : V) (i : Nat), vs = [.ref o, .int (i : Int)] ∧ H o = some (.ins C dx (flW l)) ∧ H l = some (.lst xs) ∧ xs.length ≤ 60 ∧ xs[i]? = some y ∧
  (xs.length = 60 → Q (.bl false) H) ∧ (xs.length < 60 → Q (.bl true) (L2.upd H l (.lst (xs ++ [y]))))
theorem ok_Wire_double {f : Addr} {fd : FuncData} (F : Fun K "double" "Wire.double" s_Wire_double f fd) (T : Tx K w mg cW)
    (C_Wire_send : CalM P w K mg base CX0 1 cW "send" P_Wire_send (sp_Wire_send cW)) : FnOk P w K mg base CX0 2 f fd P_Wire_double (sp_Wire_double cW) := by
  refine F.ok sc_Wire_double (fun vs H Q E h => ?_) (fun cdv A outer s H vs Q E hr h => ?_)
  · obtain ⟨_, _, _, _, _, _, rfl, _⟩ := h
    rfl
  · obtain ⟨o, dx, l, xs, y, i, rfl, ho, hl, h60, hy, q1, q2⟩ := h
    have nd := sc_Wire_double.nd
    refine ⟨_, pss_one (ps_ret (pe_calM (pv 0) C_Wire_send hr (pa_cons (pe_ix ix_list (pe_fld (pv 0) rfl) (pv 1) (fun _ _ => rfl)) pa_nil))), ?_⟩
    exact ⟨_, rfl, o, dx, _, rfl, ho, rfl, _, rfl, o, cW, dx, _, _, rfl, ho, T.clW, T.nWl, rfl, _, rfl, l, _, _, y, rfl, rfl, SqL.of hl, atI_nat hy, o, dx, l, xs, y, rfl, ho, hl, h60, q1, q2⟩
end
end LW
namespace LW
open PySem PySem.Spec PyProof.Rows L2 GxR
/-! ### bodies: those with a text that can be spoilt, and others -/
inductive BK | part | put | piece
def BK.name : BK → Str
  | .part => "part"
  | .put => "put"
  | .piece => "piece"
def BK.pre : BK → List Key
  | .part => [.inr "part", .inl 1, .inl 0]
  | .put => [.inr "put", .inl 1, .inr "image"]
  | .piece => [.inr "piece", .inr "0f", .inr "layer", .inl 0]
def BK.post : BK → List Key
  | .piece => [.inl 9]
  | _ => []
def BK.at : BK → Nat
  | .piece => 4
  | _ => 3
inductive Bd
  | txt (k : BK) (t : Str)
  | oth (x : Str) (r : List Key)
def Bd.items : Bd → List Key
  | .txt k t => k.pre ++ .inr t :: k.post
  | .oth x r => .inr x :: r
def ZOk (t : Str) : Prop := PyData.strOk t = true ∧ t.length ≤ 4
def others : List Str := ["open", "kept", "name", "look", "wrong", "have"]
def Bd.ok : Bd → Prop
  | .txt _ t => ZOk t
  | .oth x r => x ∈ others ∧ ∀ k ∈ r, kOk k
def setc (t : Str) (j c : Nat) : Str := ⟨(t.cps.toList.set j c).toArray⟩
def Bd.spl (B : Bd) (p c : Nat) : Bd := match B with
  | .txt k t => if t.length = 0 then .txt k t else .txt k (setc t (p % t.length) c)
  | .oth x r => .oth x r
theorem setc_len (t : Str) (j c : Nat) : (setc t j c).length = t.length := by
  show (t.cps.toList.set j c).toArray.size = t.cps.size
  rw [List.size_toArray, List.length_set, Array.length_toList]
theorem strOk_iff (x : Str) : PyData.strOk x = true ↔ ∀ c ∈ x.cps.toList, c < 0x110000 := by
  show x.cps.all (fun c => decide (c < 0x110000)) = true ↔ _
  rw [← Array.all_toList, List.all_eq_true]
  constructor
  · intro h c hc
    exact of_decide_eq_true (h c hc)
  · intro h c hc
    exact decide_eq_true (h c hc)
theorem setc_ok {t : Str} {j c : Nat} (h : ZOk t) (hc : c < 0x110000) : ZOk (setc t j c) := by
  refine ⟨(strOk_iff _).mpr fun z hz => ?_, by rw [setc_len]; exact h.2⟩
  rcases List.mem_or_eq_of_mem_set (show z ∈ t.cps.toList.set j c from hz) with h1 | h1
  · exact (strOk_iff _).mp h.1 z h1
  · rw [h1]; exact hc
theorem Bd.spl_ok {B : Bd} {p c : Nat} (h : B.ok) (hc : c < 0x110000) : (B.spl p c).ok := by
  cases B with
  | oth x r => exact h
  | txt k t =>
    show Bd.ok (if t.length = 0 then _ else _)
    split
    · exact h
    · exact setc_ok h hc
theorem BK.keys_ok (k : BK) : (∀ y ∈ k.pre, kOk y) ∧ ∀ y ∈ k.post, kOk y := by
  have e : ∀ x ∈ (["part", "put", "image", "piece", "0f", "layer"] : List Str), PyData.strOk x = true := by decide +kernel
  cases k
  · refine ⟨fun y hy => ?_, fun y hy => nomatch hy⟩
    simp only [BK.pre, List.mem_cons, List.not_mem_nil, or_false] at hy
    rcases hy with rfl | rfl | rfl
    · exact e _ (by decide)
    · exact True.intro
    · exact True.intro
  · refine ⟨fun y hy => ?_, fun y hy => nomatch hy⟩
    simp only [BK.pre, List.mem_cons, List.not_mem_nil, or_false] at hy
    rcases hy with rfl | rfl | rfl
    · exact e _ (by decide)
    · exact True.intro
    · exact e _ (by decide)
  · refine ⟨fun y hy => ?_, fun y hy => ?_⟩
    · simp only [BK.pre, List.mem_cons, List.not_mem_nil, or_false] at hy
      rcases hy with rfl | rfl | rfl | rfl
      · exact e _ (by decide)
      · exact e _ (by decide)
      · exact e _ (by decide)
      · exact True.intro
    · simp only [BK.post, List.mem_cons, List.not_mem_nil, or_false] at hy
      rw [hy]; exact True.intro
theorem Bd.keys_ok {B : Bd} (h : B.ok) : ∀ k ∈ B.items, kOk k := by
  cases B with
  | oth x r =>
    intro k hk
    have e : ∀ x ∈ others, PyData.strOk x = true := by decide +kernel
    rcases List.mem_cons.mp hk with rfl | hk
    · exact e x h.1
    · exact h.2 k hk
  | txt k t =>
    intro y hy
    rcases List.mem_append.mp hy with hy | hy
    · exact k.keys_ok.1 y hy
    · rcases List.mem_cons.mp hy with rfl | hy
      · exact h.1
      · exact k.keys_ok.2 y hy
def Bd.dat (B : Bd) : PyData := .tuple (B.items.map kD)
theorem Bd.lay {B : Bd} (h : B.ok) : B.dat.canLay0 = true ∧ B.dat.depth ≤ 1 := by
  have l := lay_keys B.items (B.keys_ok h)
  exact lay_tup (n := 0) ⟨l.1, Nat.le_of_eq l.2⟩
theorem Bd.dp {K : PySem.W.Frag} {H : Hp} {B : Bd} {b : Addr} (h : H b = some (.tup (B.items.map kV))) : Dp K H (.ref b) B.dat := .tup (.inl (.inl h)) (dp_keys _)
theorem BK.pre_len (k : BK) : k.pre.length = k.at := by cases k <;> rfl
theorem txt_at (k : BK) (t : Str) : ((Bd.txt k t).items.map kV)[k.at]? = some (.str t) := by cases k <;> rfl
theorem txt_0 (k : BK) (t : Str) : ((Bd.txt k t).items.map kV)[0]? = some (.str k.name) := by cases k <;> rfl
theorem txt_pre (k : BK) (t : Str) : cutV ((Bd.txt k t).items.map kV) none (some (k.at : Int)) = k.pre.map kV := by cases k <;> rfl
theorem txt_post (k : BK) (t : Str) : cutV ((Bd.txt k t).items.map kV) (some ((k.at : Int) + 1)) none = k.post.map kV := by cases k <;> rfl
theorem txt_nw1 (k : BK) (t : Str) : ¬ (HT.sIx ((Bd.txt k t).items.map kV).length 0 none = 0 ∧ HT.sIx ((Bd.txt k t).items.map kV).length ((Bd.txt k t).items.map kV).length (some (k.at : Int)) = ((Bd.txt k t).items.map kV).length) := by
  intro h
  cases k
  · exact absurd (show (3 : Nat) = 4 from h.2) (by decide)
  · exact absurd (show (3 : Nat) = 4 from h.2) (by decide)
  · exact absurd (show (4 : Nat) = 6 from h.2) (by decide)
theorem txt_nw2 (k : BK) (t : Str) : ¬ (HT.sIx ((Bd.txt k t).items.map kV).length 0 (some ((k.at : Int) + 1)) = 0 ∧ HT.sIx ((Bd.txt k t).items.map kV).length ((Bd.txt k t).items.map kV).length none = ((Bd.txt k t).items.map kV).length) := by
  intro h
  cases k
  · exact absurd (show (4 : Nat) = 0 from h.1) (by decide)
  · exact absurd (show (4 : Nat) = 0 from h.1) (by decide)
  · exact absurd (show (5 : Nat) = 0 from h.1) (by decide)
theorem setc_cut {t : Str} {j c : Nat} (h : j < t.length) : cutS t none (some (j : Int)) ++ (⟨#[c]⟩ : Str) ++ cutS t (some ((j : Int) + 1)) none = setc t j c := by
  have e : TL.tl (cutS t none (some (j : Int)) ++ (⟨#[c]⟩ : Str) ++ cutS t (some ((j : Int) + 1)) none) = TL.tl (setc t j c) := by
    have l : t.cps.toList.length = t.length := Array.length_toList
    rw [TL.tl_append, TL.tl_append]
    show ((t.cps.toList.drop 0).take (HT.sIx t.length t.length (some (j : Int)) - 0)) ++ [c] ++ ((t.cps.toList.drop (HT.sIx t.length 0 (some ((j : Int) + 1)))).take (t.length - HT.sIx t.length 0 (some ((j : Int) + 1)))) = t.cps.toList.set j c
    have e1 : HT.sIx t.length t.length (some (j : Int)) = j := by rw [HT.sIx_nat]; omega
    have e2 : HT.sIx t.length 0 (some ((j : Int) + 1)) = j + 1 := by
      have := HT.sIx_nat t.length 0 (j + 1)
      rw [show ((j : Int) + 1) = ((j + 1 : Nat) : Int) by omega, this]; omega
    rw [e1, e2, List.drop_zero, Nat.sub_zero, List.take_of_length_le (l := t.cps.toList.drop (j + 1)) (by rw [List.length_drop, l]; exact Nat.le_refl _), List.set_eq_take_append_cons_drop, if_pos (by rw [l]; exact h)]
    simp
  have e' : (cutS t none (some (j : Int)) ++ (⟨#[c]⟩ : Str) ++ cutS t (some ((j : Int) + 1)) none).cps.toList = (setc t j c).cps.toList := e
  generalize cutS t none (some (j : Int)) ++ (⟨#[c]⟩ : Str) ++ cutS t (some ((j : Int) + 1)) none = x at e'
  cases x with
  | mk xs =>
    show (⟨xs⟩ : Str) = ⟨(t.cps.toList.set j c).toArray⟩
    congr 1
    exact Array.toList_inj.mp e'
theorem len0 {t : Str} : t.length = 0 ↔ t = "" := by
  constructor
  · intro h
    cases t with
    | mk xs =>
      have : xs = #[] := Array.eq_empty_of_size_eq_zero h
      rw [this]; rfl
  · rintro rfl; rfl
/-- both spoil alike: the promise of either -/
def spSpl : Sp := fun vs H Q _ => ∃ (b : Addr) (B : Bd) (p c : Nat), vs = [.ref b, .int (p : Int), .str ⟨#[c]⟩] ∧ H b = some (.tup (B.items.map kV)) ∧ B.ok ∧ p < 1000 ∧
  ∀ (b' : Addr) (H' : Hp), Same H H' → H' b' = some (.tup ((B.spl p c).items.map kV)) → (b' = b ∨ H b' = none) → Q (.ref b') H'
end LW
namespace LW
open PySem PySem.Spec PyProof.Rows L2 GxR
theorem app_len (x y : Str) : (x ++ y).length = x.length + y.length := by rw [TL.len_tl, TL.len_tl, TL.len_tl, TL.tl_append, List.length_append]
abbrev s_spoilt_body : Stmt := topS 4
abbrev N_spoilt_body : List Str := ["body", "place", "character", "at", "text", "there"]
abbrev P_spoilt_body : List Str := ["body", "place", "character"]
theorem sc_spoilt_body : FnScope N_spoilt_body P_spoilt_body (defScope s_spoilt_body) := ⟨rfl, rfl, rfl, by decide +kernel, rfl, by decide +kernel, by decide +kernel⟩
section
variable {P : Program} {w : World} {K : PySem.W.Frag} {mg : Str → Option Value} {base : Heap} {cW : Addr}
theorem TatAt.of (T : TatAt K w mg) : ∃ d, mg "_TEXT_AT" = some (.ref d) ∧ (∃ es n, KDict K w d es n) ∧ (∀ k : BK, KDct K w d k.name (.int (k.at : Int))) ∧ ∀ z ∈ others, PySem.W.nsIn K d z = some none := by
  obtain ⟨d, h1, h2, h3, h4, h5, h6⟩ := T.ex
  exact ⟨d, h1, h2, fun k => by cases k <;> assumption, h6⟩
theorem ok_spoilt_body {f : Addr} {fd : FuncData} (F : Fun K "_spoilt_body" "_spoilt_body" s_spoilt_body f fd) (T : Tx K w mg cW) : FnOk P w K mg base CX0 1 f fd P_spoilt_body spSpl := by
  refine F.ok sc_spoilt_body (fun vs H Q E h => ?_) (fun cdv A outer s H vs Q E hr h => ?_)
  · obtain ⟨_, _, _, _, rfl, _⟩ := h
    rfl
  · obtain ⟨b, B, p, c, rfl, hb, hok, hp, q⟩ := h
    have nd := sc_spoilt_body.nd
    obtain ⟨d, gd, ⟨es, n, KD⟩, hk, hmiss⟩ := T.tat.of
    refine ⟨_, pss_cons (ps_if (pt_cmpR (op_notIn_kd KD) (pe_ix ix_tup (pv 0) pe_int (fun _ _ => rfl)) (pe_glob (v := .ref d) (by rfl) gd rfl) (by rfl))
    (pss_one (ps_ret (pv 0)))
    (pss_nil))
  (pss_cons (ps_set (i := 3) nd rfl (Or.inl rfl) (pe_ix ix_kdict (pe_glob (v := .ref d) (by rfl) gd rfl) (pe_ix ix_tup (pv 0) pe_int (fun _ _ => rfl)) (fun _ _ => rfl)))
  (pss_cons (ps_set (i := 4) nd rfl (Or.inl rfl) (pe_ix ix_tup (pv 0) (pv 3) (fun _ _ => rfl)))
  (pss_cons (ps_if (pt_cmpR op_eq (pv 4) pe_str (nomark _))
    (pss_one (ps_ret (pv 0)))
    (pss_nil))
  (pss_cons (ps_set (i := 5) nd rfl (Or.inl rfl) (pe_op op_mod (pv 1) (pe_callB call_len_str (by rfl) T.z_len (by decide +kernel) (pa_cons (pv 4) pa_nil))))
  (pss_one (ps_ret (pe_op op_catT (pe_op op_catT (pe_slice sl_tup (pv 0) po_none (po_some (pv 3))) (pe_tup (pa_cons (pe_op op_add_str (pe_op op_add_str (pe_slice sl_str (pv 4) po_none (po_some (pv 5))) (pv 2)) (pe_slice sl_str (pv 4) (po_some (pe_op op_add (pv 5) pe_int)) po_none)) pa_nil))) (pe_slice sl_tup (pv 0) (po_some (pe_op op_add (pv 3) pe_int)) po_none)))))))), ?_⟩
    have hB : SqT K H b (B.items.map kV) := .inl (.inl hb)
    cases B with
    | oth x r =>
      refine ⟨_, rfl, b, _, 0, _, rfl, rfl, hB, atI_nat (j := 0) rfl, x, none, rfl, rfl, hmiss x hok.1, _, rfl, ite2 (fun _ => ?_) (fun h => absurd rfl h)⟩
      exact ⟨_, rfl, q b H (fun _ _ e => e) hb (.inl rfl)⟩
    | txt k t =>
      have a0 : atI ((Bd.txt k t).items.map kV) 0 = some (.str k.name) := atI_nat (j := 0) (txt_0 k t)
      obtain ⟨es', n', u, e1, e2, e3, e4⟩ := hk k
      refine ⟨_, rfl, b, _, 0, _, rfl, rfl, hB, a0, k.name, some u, rfl, rfl, e3, _, rfl, ite2 (fun h => absurd h Bool.false_ne_true) (fun _ => ?_)⟩
      refine ⟨_, rfl, b, _, 0, _, rfl, rfl, hB, a0, d, k.name, .int (k.at : Int), rfl, rfl, hk k, ?_⟩
      refine ⟨_, rfl, _, rfl, b, _, _, .str t, rfl, rfl, hB, atI_nat (txt_at k t), ?_⟩
      refine ⟨_, rfl, rfl, _, rfl, ite2 (fun h => ?_) (fun h => ?_)⟩
      · have ht : t = "" := by
          have := of_decide_eq_true h
          injection this
        refine ⟨_, rfl, q b H (fun _ _ e => e) ?_ (.inl rfl)⟩
        rw [hb]
        show _ = some (HO.tup ((if t.length = 0 then Bd.txt k t else _ : Bd).items.map kV))
        rw [if_pos (len0.mpr ht)]
      · have ht : ¬ t.length = 0 := fun z => h (decide_eq_true (by rw [len0.mp z]))
        have h4 : t.length ≤ 4 := hok.2
        have hz : t.length ≤ sizeLine := Nat.le_trans h4 (by decide)
        have em : (p : Int) % (t.length : Int) = ((p % t.length : Nat) : Int) := by omega
        have hj : p % t.length < t.length := Nat.mod_lt _ (by omega)
        refine ⟨_, rfl, _, rfl, t, rfl, hz, _, _, rfl, rfl, (by show (0 : Int) < t.length; omega), ?_⟩
        dsimp only
        rw [em]
        have hS : (Bd.txt k t).spl p c = .txt k (setc t (p % t.length) c) := if_neg ht
        rw [hS] at q
        generalize p % t.length = j at hj em q
        have lc : ∀ lo hi, (cutS t lo hi).length ≤ 4 := fun lo hi => Nat.le_trans (cutS_length t lo hi) h4
        refine ⟨_, rfl, _, rfl, _, rfl, b, _, rfl, hB, txt_nw1 k t, fun p1 n1 => ?_⟩
        rw [txt_pre k t]
        have s1 : Same H _ := same_upd n1 (o := .tup (k.pre.map kV))
        have e1 : (L2.upd H p1 (.tup (k.pre.map kV))) p1 = _ := upd_same
        generalize L2.upd H p1 (.tup (k.pre.map kV)) = H1 at s1 e1
        refine ⟨_, rfl, _, rfl, _, rfl, t, rfl, hz, _, rfl, _, _, rfl, rfl, ?_, ?_⟩
        · exact Nat.le_trans (Nat.add_le_add (lc _ _) (Nat.le_refl 1)) (by decide)
        refine ⟨_, rfl, _, rfl, _, _, rfl, rfl, _, rfl, t, rfl, hz, _, _, rfl, rfl, ?_, ?_⟩
        · rw [app_len]
          exact Nat.le_trans (Nat.add_le_add (Nat.add_le_add (lc _ _) (Nat.le_refl 1)) (lc _ _)) (by decide)
        rw [setc_cut hj]
        refine ⟨(by decide : (1 : Nat) ≤ sizeLine), fun p2 n2 => ?_⟩
        have s2 : Same H1 _ := same_upd n2 (o := .tup [.str (setc t j c)])
        have e2 : (L2.upd H1 p2 (.tup [.str (setc t j c)])) p2 = _ := upd_same
        generalize L2.upd H1 p2 (.tup [.str (setc t j c)]) = H2 at s2 e2
        have lp : (k.pre.map kV).length ≤ 4 := by cases k <;> decide
        have lq : (k.post.map kV).length ≤ 1 := by cases k <;> decide
        refine ⟨p1, p2, _, _, rfl, rfl, SqT.of (s2 _ _ e1), SqT.of e2, (by cases k <;> exact fun z => nomatch z), Nat.le_trans (Nat.add_le_add lp (Nat.le_refl 1)) (by decide), (fun z => nomatch z), fun _ p3 n3 => ?_⟩
        have s3 : Same H2 _ := same_upd n3 (o := .tup (k.pre.map kV ++ [.str (setc t j c)]))
        have e3 : (L2.upd H2 p3 (.tup (k.pre.map kV ++ [.str (setc t j c)]))) p3 = _ := upd_same
        generalize L2.upd H2 p3 (.tup (k.pre.map kV ++ [.str (setc t j c)])) = H3 at s3 e3
        have s03 := (s1.trans s2).trans s3
        refine ⟨_, rfl, _, rfl, _, _, rfl, rfl, _, rfl, b, _, rfl, SqT.of (s03 _ _ hb), txt_nw2 k t, fun p4 n4 => ?_⟩
        rw [txt_post k t]
        have s4 : Same H3 _ := same_upd n4 (o := .tup (k.post.map kV))
        have e4 : (L2.upd H3 p4 (.tup (k.post.map kV))) p4 = _ := upd_same
        generalize L2.upd H3 p4 (.tup (k.post.map kV)) = H4 at s4 e4
        have s04 := s03.trans s4
        have ei : (Bd.txt k (setc t j c)).items.map kV = (k.pre.map kV ++ [.str (setc t j c)]) ++ k.post.map kV := by
          show (k.pre ++ .inr (setc t j c) :: k.post).map kV = _
          rw [List.map_append, List.map_cons, List.append_assoc]; rfl
        refine ⟨p3, p4, _, _, rfl, rfl, SqT.of (s4 _ _ e3), SqT.of e4, (by cases k <;> exact fun z => nomatch z), ?_, fun z => ?_, fun _ p5 n5 => ?_⟩
        · rw [List.length_append]
          exact Nat.le_trans (Nat.add_le_add (Nat.add_le_add lp (Nat.le_refl 1)) lq) (by decide)
        · refine q p3 _ s04 ?_ (.inr ((s1.trans s2).free n3))
          rw [ei, z, List.append_nil]
          exact s4 _ _ e3
        · refine q p5 _ (s04.trans (same_upd n5)) ?_ (.inr (s04.free n5))
          rw [ei]
          exact upd_same
end
end LW
namespace LW
open PySem PySem.Spec PyProof.Rows L2 GxR
abbrev s_law_spoilt : Stmt := topS 11
abbrev N_law_spoilt : List Str := ["body", "place", "character", "spot", "signs"]
abbrev P_law_spoilt : List Str := ["body", "place", "character"]
theorem sc_law_spoilt : FnScope N_law_spoilt P_law_spoilt (defScope s_law_spoilt) := ⟨rfl, rfl, rfl, by decide +kernel, rfl, by decide +kernel, by decide +kernel⟩
def spots : List (Key × V) := [(.inr "part", .int 3), (.inr "put", .int 3), (.inr "piece", .int 4)]
def spotD : List (Key × V) := mergeK [] spots
theorem spot_k (k : BK) : valV spotD (.inr k.name) = some (.int (k.at : Int)) := by cases k <;> decide +kernel
theorem spot_o : ∀ x ∈ others, valV spotD (.inr x) = none := by decide +kernel
section
variable {P : Program} {w : World} {K : PySem.W.Frag} {mg : Str → Option Value} {base : Heap} {cW : Addr}
theorem ok_law_spoilt {f : Addr} {fd : FuncData} (F : Fun K "_law_spoilt" "_law_spoilt" s_law_spoilt f fd) (T : Tx K w mg cW) : FnOk P w K mg base CX0 1 f fd P_law_spoilt spSpl := by
  refine F.ok sc_law_spoilt (fun vs H Q E h => ?_) (fun cdv A outer s H vs Q E hr h => ?_)
  · obtain ⟨_, _, _, _, rfl, _⟩ := h
    rfl
  · obtain ⟨b, B, p, c, rfl, hb, hok, hp, q⟩ := h
    have nd := sc_law_spoilt.nd
    have hu := hu_of hr
    refine ⟨_, pss_cons (ps_set (i := 3) nd rfl (Or.inl rfl) (pe_dget2 hu (pe_disp (pps_cons pe_str pe_int (pps_cons pe_str pe_int (pps_cons pe_str pe_int pps_nil))) (by rfl) (by rfl) (fun z => by cases z) (by decide)) (pe_ix ix_tup (pv 0) pe_int (fun _ _ => rfl)) pe_int ⟨rfl, rfl, rfl, rfl⟩))
  (pss_cons (ps_if (PW.pt (pw_or (pt_cmpR op_eq (pv 3) pe_int (nomark _)) (pw_or1 (pt_cmpR op_eq (pe_callB call_len_str (by rfl) T.z_len (by decide +kernel) (pa_cons (pe_ix ix_tup (pv 0) (pv 3) (fun _ _ => rfl)) pa_nil)) pe_int (nomark _)))))
    (pss_one (ps_ret (pv 0)))
    (pss_nil))
  (pss_cons (ps_set (i := 4) nd rfl (Or.inl rfl) (pe_callTy (call_listS rfl) (by rfl) T.z_list (by decide +kernel) (pa_cons (pe_ix ix_tup (pv 0) (pv 3) (fun _ _ => rfl)) pa_nil)))
  (pss_cons (ps_asg (pv 2) (pg_sub (pv 4) (pe_op op_mod (pe_callTy call_int1 (by rfl) T.z_int (by decide +kernel) (pa_cons (pv 1) pa_nil)) (pe_callB call_len_seq (by rfl) T.z_len (by decide +kernel) (pa_cons (pv 4) pa_nil))) set_list))
  (pss_one (ps_ret (pe_op op_catT (pe_op op_catT (pe_slice sl_tup (pv 0) po_none (po_some (pv 3))) (pe_tup (pa_cons (pe_join pe_str (pv 4)) pa_nil))) (pe_slice sl_tup (pv 0) (po_some (pe_op op_add (pv 3) pe_int)) po_none))))))), ?_⟩
    refine fun d hd => ?_
    have db : b ≠ d := ne_of_none hb hd
    refine ⟨upd_same, spots, rfl, by decide, d, rfl, .inl ⟨_, .inl upd_same⟩, ?_⟩
    have s1 : Same H (L2.upd (L2.upd H d (.dK [])) d (.dK (mergeK [] spots))) := fun x o e => by rw [upd_ne (ne_of_none e hd), upd_ne (ne_of_none e hd)]; exact e
    have hb1 := s1 _ _ hb
    have dg : ∀ z, DGet (L2.upd (L2.upd H d (.dK [])) d (.dK (mergeK [] spots))) d (.str z) (valV spotD (.inr z)) := fun z => DGet.k (k := .inr z) upd_same
    generalize L2.upd (L2.upd H d (.dK [])) d (.dK (mergeK [] spots)) = H1 at s1 hb1 dg
    have hB : SqT K H1 b (B.items.map kV) := .inl (.inl hb1)
    cases B with
    | oth x r =>
      have g := dg x
      rw [spot_o x hok.1] at g
      refine ⟨_, rfl, b, _, 0, _, rfl, rfl, hB, atI_nat (j := 0) rfl, none, g, ?_⟩
      refine ⟨_, rfl, rfl, _, rfl, iteT (iteT ?_)⟩
      exact ⟨_, rfl, q b H1 s1 hb1 (.inl rfl)⟩
    | txt k t =>
      have g := dg k.name
      rw [spot_k k] at g
      have a0 : atI ((Bd.txt k t).items.map kV) 0 = some (.str k.name) := atI_nat (j := 0) (txt_0 k t)
      have hz : t.length ≤ sizeLine := Nat.le_trans hok.2 (by decide)
      refine ⟨_, rfl, b, _, 0, _, rfl, rfl, hB, a0, _, g, ?_⟩
      refine ⟨_, rfl, rfl, _, rfl, ?_⟩
      have h0 : decide (V.int (k.at : Int) = V.int 0) = false := by cases k <;> decide
      dsimp only [Option.getD_some]
      rw [h0]
      refine iteF ?_
      refine ⟨_, rfl, _, rfl, b, _, _, .str t, rfl, rfl, hB, atI_nat (txt_at k t), t, rfl, hz, rfl, _, rfl, ite2 (fun h => ?_) (fun h => ?_)⟩
      · have ht : t.length = 0 := by
          have := of_decide_eq_true h
          injection this with h
          omega
        refine ⟨_, rfl, q b H1 s1 ?_ (.inl rfl)⟩
        rw [hb1]
        show _ = some (HO.tup ((if t.length = 0 then Bd.txt k t else _ : Bd).items.map kV))
        rw [if_pos ht]
      · have ht : ¬ t.length = 0 := fun z => h (decide_eq_true (by rw [z]; rfl))
        have hS : (Bd.txt k t).spl p c = .txt k (setc t (p % t.length) c) := if_neg ht
        rw [hS] at q
        have hj : p % t.length < t.length := Nat.mod_lt _ (by omega)
        have em : (p : Int) % (t.length : Int) = ((p % t.length : Nat) : Int) := by omega
        have hl : (signs t).length = t.length := by unfold signs; rw [List.length_map]; exact Array.length_toList
        refine ⟨_, rfl, _, rfl, b, _, _, .str t, rfl, rfl, hB, atI_nat (txt_at k t), t, rfl, hz, fun l nl => ?_⟩
        have s2 : Same H1 _ := same_upd nl (o := .lst (signs t))
        have e2 : (L2.upd H1 l (.lst (signs t))) l = _ := upd_same
        generalize L2.upd H1 l (.lst (signs t)) = H2 at s2 e2
        refine ⟨_, rfl, _, rfl, _, rfl, .inl ⟨_, rfl, _, rfl, l, _, rfl, .inl (SqL.of e2), _, _, rfl, rfl, by rw [hl]; omega, l, signs t, _, p % t.length, rfl, rfl, e2, by rw [hl, em]; unfold ixN; rw [if_pos (by omega), if_pos (by omega)]; rfl, ?_⟩⟩
        generalize p % t.length = j at hj em q
        have s3 : ∀ x o, x ≠ l → H2 x = some o → (L2.upd H2 l (.lst ((signs t).set j (.str ⟨#[c]⟩)))) x = some o := fun x o hx e => by rw [upd_ne hx]; exact e
        have e3 : (L2.upd H2 l (.lst ((signs t).set j (.str ⟨#[c]⟩)))) l = _ := upd_same
        have f3 : ∀ x, (L2.upd H2 l (.lst ((signs t).set j (.str ⟨#[c]⟩)))) x = none → H2 x = none := fun x z => by
          by_cases hx : x = l
          · rw [hx, upd_same] at z; cases z
          · rw [upd_ne hx] at z; exact z
        generalize L2.upd H2 l (.lst ((signs t).set j (.str ⟨#[c]⟩))) = H3 at s3 e3 f3
        have s03 : Same H H3 := fun x o e => s3 x o (fun z => by rw [z] at e; rw [s1 _ _ e] at nl; cases nl) (s2 _ _ (s1 _ _ e))
        have f03 : ∀ x, H3 x = none → H x = none := fun x z => s03.free z
        have es : (signs t).set j (.str ⟨#[c]⟩) = ((t.cps.toList.set j c).map fun c => (⟨#[c]⟩ : Str)).map V.str := by
          unfold signs
          rw [List.map_map, List.map_set]; rfl
        rw [es] at e3
        have hb3 := s03 _ _ hb
        have hB3 : SqT K H3 b ((Bd.txt k t).items.map kV) := SqT.of hb3
        have ej : Txt.join (Str.ofString "") ((t.cps.toList.set j c).map fun c => (⟨#[c]⟩ : Str)) = setc t j c := by
          have h := join_one (t.cps.toList.set j c)
          generalize Txt.join (Str.ofString "") ((t.cps.toList.set j c).map fun c => (⟨#[c]⟩ : Str)) = x at h
          cases x with
          | mk xs =>
            show (⟨xs⟩ : Str) = ⟨(t.cps.toList.set j c).toArray⟩
            congr 1
            exact Array.toList_inj.mp h
        refine ⟨_, rfl, _, rfl, _, rfl, b, _, rfl, hB3, txt_nw1 k t, fun p1 n1 => ?_⟩
        rw [txt_pre k t]
        have t1 : Same H3 _ := same_upd n1 (o := .tup (k.pre.map kV))
        have g1 : (L2.upd H3 p1 (.tup (k.pre.map kV))) p1 = _ := upd_same
        generalize L2.upd H3 p1 (.tup (k.pre.map kV)) = H4 at t1 g1
        refine ⟨⟨_, rfl⟩, _, rfl, _, l, _, rfl, rfl, .inl (SqL.of (t1 _ _ e3)), ?_, ?_⟩
        · have := sum_le (fun l : Str => l.length) 1 ((t.cps.toList.set j c).map fun c => (⟨#[c]⟩ : Str)) fun x hx => by
            obtain ⟨y, hy, rfl⟩ := List.mem_map.mp hx
            exact Nat.le_refl 1
          have z : (Str.ofString "").length = 0 := by decide +kernel
          rw [z, Nat.mul_zero, Nat.add_zero]
          refine Nat.le_trans this ?_
          rw [List.length_map, List.length_set]
          have : t.cps.toList.length = t.length := Array.length_toList
          have := hok.2
          omega
        rw [ej]
        have t4 : Same H H4 := s03.trans t1
        refine ⟨(by decide : (1 : Nat) ≤ sizeLine), fun p2 n2 => ?_⟩
        have t5 : Same H4 _ := same_upd n2 (o := .tup [.str (setc t j c)])
        have g2 : (L2.upd H4 p2 (.tup [.str (setc t j c)])) p2 = _ := upd_same
        generalize L2.upd H4 p2 (.tup [.str (setc t j c)]) = H5 at t5 g2
        have lp : (k.pre.map kV).length ≤ 4 := by cases k <;> decide
        have lq : (k.post.map kV).length ≤ 1 := by cases k <;> decide
        refine ⟨p1, p2, _, _, rfl, rfl, SqT.of (t5 _ _ g1), SqT.of g2, (by cases k <;> exact fun z => nomatch z), Nat.le_trans (Nat.add_le_add lp (Nat.le_refl 1)) (by decide), (fun z => nomatch z), fun _ p3 n3 => ?_⟩
        have t6 : Same H5 _ := same_upd n3 (o := .tup (k.pre.map kV ++ [.str (setc t j c)]))
        have g3 : (L2.upd H5 p3 (.tup (k.pre.map kV ++ [.str (setc t j c)]))) p3 = _ := upd_same
        generalize L2.upd H5 p3 (.tup (k.pre.map kV ++ [.str (setc t j c)])) = H6 at t6 g3
        have t03 := (t4.trans t5).trans t6
        refine ⟨_, rfl, _, rfl, _, _, rfl, rfl, _, rfl, b, _, rfl, SqT.of (t03 _ _ hb), txt_nw2 k t, fun p4 n4 => ?_⟩
        rw [txt_post k t]
        have t7 : Same H6 _ := same_upd n4 (o := .tup (k.post.map kV))
        have g4 : (L2.upd H6 p4 (.tup (k.post.map kV))) p4 = _ := upd_same
        generalize L2.upd H6 p4 (.tup (k.post.map kV)) = H7 at t7 g4
        have t04 := t03.trans t7
        have ei : (Bd.txt k (setc t j c)).items.map kV = (k.pre.map kV ++ [.str (setc t j c)]) ++ k.post.map kV := by
          show (k.pre ++ .inr (setc t j c) :: k.post).map kV = _
          rw [List.map_append, List.map_cons, List.append_assoc]; rfl
        refine ⟨p3, p4, _, _, rfl, rfl, SqT.of (t7 _ _ g3), SqT.of g4, (by cases k <;> exact fun z => nomatch z), ?_, fun z => ?_, fun _ p5 n5 => ?_⟩
        · rw [List.length_append]
          exact Nat.le_trans (Nat.add_le_add (Nat.add_le_add lp (Nat.le_refl 1)) lq) (by decide)
        · refine q p3 _ t04 ?_ (.inr ((t4.trans t5).free n3))
          rw [ei, z, List.append_nil]
          exact t7 _ _ g3
        · refine q p5 _ (t04.trans (same_upd n5)) ?_ (.inr (t04.free n5))
          rw [ei]
          exact upd_same
end
end LW
namespace LW
open PySem PySem.Spec PyProof.Rows L2 GxR
abbrev s_law_state : Stmt := topS 6
abbrev N_law_state : List Str := ["script", "cells", "cell"]
abbrev P_law_state : List Str := ["script"]
theorem sc_law_state : FnScope N_law_state P_law_state (defScope s_law_state) := ⟨rfl, rfl, rfl, by decide +kernel, rfl, by decide +kernel, by decide +kernel⟩
abbrev s_law_take : Stmt := topS 7
abbrev N_law_take : List Str := ["state", "most", "cells", "at", "cell", "mixed"]
abbrev P_law_take : List Str := ["state", "most"]
theorem sc_law_take : FnScope N_law_take P_law_take (defScope s_law_take) := ⟨rfl, rfl, rfl, by decide +kernel, rfl, by decide +kernel, by decide +kernel⟩
section
variable {P : Program} {w : World} {K : PySem.W.Frag} {mg : Str → Option Value} {base : Heap} {cW : Addr}
theorem ok_state {f : Addr} {fd : FuncData} (F : Fun K "_law_state" "_law_state" s_law_state f fd) (T : Tx K w mg cW) : FnOk P w K mg base CX0 1 f fd P_law_state (spState K) := by
  refine F.ok sc_law_state (fun vs H Q E h => ?_) (fun cdv A outer s H vs Q E hr h => ?_)
  · obtain ⟨l, ns, rfl, _⟩ := h
    rfl
  · obtain ⟨l, ns, rfl, hS, hl, q⟩ := h
    have nd := sc_law_state.nd
    refine ⟨_, pss_cons (ps_setLc (i := 1) (own := [("cell", 2)]) (g := gName 2) (tt := tYes) rfl nd rfl rfl (sw_true rfl rfl rfl (by decide +kernel)) (pi_list (pe_slice sl_list (pv 0) po_none (po_some pe_int))) (blkOk_by (N := N_law_state) (sc := defScope s_law_state) (by decide +kernel)) (fun _ _ _ _ _ => (pg_name (i := 2) nd rfl (Or.inl rfl))) (fun _ _ _ _ _ => pts_nil) (fun _ _ _ _ _ => (pe_callB call_abs (by rfl) T.z_abs (by decide +kernel) (pa_cons (pv 2) pa_nil))))
  (pss_cons (ps_if (pt_cmpR op_eq (pe_callB call_len_seq (by rfl) T.z_len (by decide +kernel) (pa_cons (pv 1) pa_nil)) pe_int (nomark _))
    (pss_one (ps_set (i := 1) nd rfl (.inl rfl) (pe_lst (pa_cons pe_int pa_nil))))
    (pss_nil))
  (pss_one (ps_ret (pe_lst (pa_cons pe_int (pa_cons (pv 1) pa_nil)))))), ?_⟩
    obtain ⟨zs, ez, lz, _⟩ := cutV_map V.int ns none (some 63)
    refine ⟨.ref l, rfl, 63, rfl, l, _, rfl, hS, fun p np => ?_⟩
    rw [ez]
    have s1 : Same H (upd H p (.lst (zs.map V.int))) := same_upd np
    refine ⟨p, rfl, ⟨_, SqL.of upd_same⟩, fun D nD => lc_map (walk_list (K := K) (a := p) (xs := zs.map V.int)) (σ := [some (.ref l), none, none]) (vs := [2])
      (fun i => .int (if zs.getD i 0 < 0 then -zs.getD i 0 else zs.getD i 0)) ?_ ?_ (fun _ => rfl) ?_ ?_⟩
    · rw [List.length_map]
      exact Nat.lt_of_le_of_lt (Nat.le_trans lz hl) (by decide)
    · intro H2 hb
      exact hb.list nD (SqL.of upd_same)
    · rintro i x H2 H3 hi hb ⟨rfl, hx⟩
      rw [List.getElem?_map] at hx
      cases e : zs[i]? with
      | none => rw [e] at hx; cases hx
      | some z =>
        rw [e] at hx
        cases hx
        refine ⟨rfl, fun Q2 k => ⟨_, rfl, z, rfl, ?_⟩⟩
        have : zs.getD i 0 = z := by rw [List.getD_eq_getElem?_getD, e]; rfl
        rw [this] at k
        exact k
    · rw [List.length_map]
      have em : ((List.range zs.length).map fun i => V.int (if zs.getD i 0 < 0 then -zs.getD i 0 else zs.getD i 0)) = (zs.map fun z => if z < 0 then -z else z).map V.int := by
        rw [range_map_get (fun z : Int => V.int (if z < 0 then -z else z)) 0 zs, List.map_map]
        rfl
      rw [em]
      have s2 : Same H (upd (upd H p (.lst (zs.map V.int))) D (.lst ((zs.map fun z => if z < 0 then -z else z).map V.int))) := s1.trans (same_upd nD)
      have fin : ∀ (c : Addr) (cs : List Int) (H2 : Hp), Same H H2 → H c = none → H2 c = some (.lst (cs.map V.int)) → 0 < cs.length → cs.length ≤ 63 → (∀ z ∈ cs, 0 ≤ z) →
          ∀ x, H2 x = none → Q (.ref x) (upd H2 x (.lst [.int 0, .ref c])) := by
        intro c cs H2 sm nc hc h0 h63 hnn x nx
        have ncx : c ≠ x := ne_of_none hc nx
        refine q x c _ (sm.free nx) nc (sm.trans (same_upd nx)) ⟨0, cs, upd_same, ?_, ncx.symm, h0, h63, hnn, by omega⟩
        rw [upd_ne ncx]
        exact hc
      refine ⟨_, rfl, D, _, rfl, .inl (SqL.of upd_same), rfl, _, rfl, ite2 (fun e => ?_) (fun e => ?_)⟩
      · refine ⟨by show 1 ≤ sizeLine; decide, fun c nc => ?_⟩
        refine ⟨_, rfl, by show 2 ≤ sizeLine; decide, ?_⟩
        exact fin c [0] _ (s2.trans (same_upd nc)) (s2.free nc) upd_same (by decide) (by decide) (by decide)
      · refine ⟨_, rfl, by show 2 ≤ sizeLine; decide, ?_⟩
        refine fin D (zs.map fun z => if z < 0 then -z else z) _ s2 (s1.free nD) upd_same ?_ ?_ ?_
        · have e' := of_decide_eq_false (eq_false_of_ne_true e)
          rw [List.length_map]
          rw [List.length_map, List.length_map] at e'
          rcases Nat.eq_zero_or_pos zs.length with h | h
          · exact absurd (by rw [h]; rfl) e'
          · exact h
        · rw [List.length_map]
          omega
        · intro z hz
          obtain ⟨y, _, rfl⟩ := List.mem_map.mp hz
          split <;> omega
theorem ok_take {f : Addr} {fd : FuncData} (F : Fun K "_law_take" "_law_take" s_law_take f fd) (z_len : mg "len" = none) (z_int : mg "int" = none) : FnOk P w K mg base CX0 1 f fd P_law_take spTake := by
  refine F.ok sc_law_take (fun vs H Q E h => ?_) (fun cdv A outer s H vs Q E hr h => ?_)
  · obtain ⟨a, c, m, rfl, _⟩ := h
    rfl
  · obtain ⟨a, c, m, rfl, ⟨n, cs, ha, hc, hac, h0, h63, hnn, hn⟩, hm1, hm2, q⟩ := h
    have nd := sc_law_take.nd
    refine ⟨_, pss_cons (ps_set (i := 2) nd rfl (.inl rfl) (pe_ix ix_list (pv 0) pe_int (fun _ _ => rfl)))
  (pss_cons (ps_set (i := 3) nd rfl (.inl rfl) (pe_op op_mod (pe_ix ix_list (pv 0) pe_int (fun _ _ => rfl)) (pe_callB call_len_seq (by rfl) z_len (by decide +kernel) (pa_cons (pv 2) pa_nil))))
  (pss_cons (ps_set (i := 4) nd rfl (.inl rfl) (pe_ix ix_list (pv 2) (pv 3) (fun _ _ => rfl)))
  (pss_cons (ps_if (pt_cmpR op_ge (pv 4) pe_int (nomark _))
    (pss_cons (ps_asg (pe_op op_fdiv (pv 4) (pv 1)) (pg_sub (pv 2) (pv 3) set_list))
  (pss_one (ps_ret (pe_op op_mod (pv 4) (pv 1)))))
    (pss_nil))
  (pss_cons (ps_asg (pe_op op_add (pe_ix ix_list (pv 0) pe_int (fun _ _ => rfl)) pe_int) (pg_sub (pv 0) pe_int set_list))
  (pss_cons (ps_set (i := 5) nd rfl (.inl rfl) (pe_op op_mod (pe_callTy call_int1 (by rfl) z_int (by decide +kernel) (pa_cons (pe_op op_add (pe_op op_mul (pv 4) pe_int) (pe_op op_mul (pe_ix ix_list (pv 0) pe_int (fun _ _ => rfl)) pe_int)) pa_nil)) pe_int))
  (pss_cons (ps_set (i := 5) nd rfl (.inl rfl) (pe_op op_mod (pe_callTy call_int1 (by rfl) z_int (by decide +kernel) (pa_cons (pe_op op_add (pe_op op_mul (pv 5) pe_int) (pe_op op_mul (pe_ix ix_list (pv 0) pe_int (fun _ _ => rfl)) pe_int)) pa_nil)) pe_int))
  (pss_one (ps_ret (pe_op op_mod (pe_op op_fdiv (pv 5) pe_int) (pv 1)))))))))), ?_⟩
    have hA : SqL K H a [.int n, .ref c] := SqL.of ha
    have hC : SqL K H c (cs.map V.int) := SqL.of hc
    have hl : (0 : Int) < (((cs.map V.int).length : Nat) : Int) := by rw [List.length_map]; omega
    have e0 : 0 ≤ n % ((cs.map V.int).length : Int) := Int.emod_nonneg _ (by omega)
    have e1 : n % ((cs.map V.int).length : Int) < ((cs.map V.int).length : Int) := Int.emod_lt_of_pos _ hl
    obtain ⟨j, hj⟩ : ∃ j : Nat, n % ((cs.map V.int).length : Int) = (j : Int) := ⟨_, (Int.toNat_of_nonneg e0).symm⟩
    have hjl : j < cs.length := by rw [List.length_map] at e1; rw [List.length_map] at hj; omega
    have gz : (cs.map V.int)[j]? = some (.int cs[j]) := by rw [List.getElem?_map, List.getElem?_eq_getElem hjl]; rfl
    have hz0 : 0 ≤ cs[j] := hnn _ (List.getElem_mem hjl)
    -- cells = state[1]; at = state[0] % len(cells); cell = cells[at]
    refine ⟨.ref a, rfl, a, _, 1, _, rfl, rfl, hA, at2_1, ?_⟩
    refine ⟨.ref a, rfl, a, _, 0, _, rfl, rfl, hA, at2_0, .ref c, rfl, c, _, rfl, .inl hC, _, _, rfl, rfl, hl, ?_⟩
    refine ⟨.ref c, rfl, _, rfl, c, _, _, .int cs[j], rfl, rfl, hC, by rw [hj]; exact atI_nat gz, ?_⟩
    -- if cell >= ..
    refine ⟨_, rfl, _, _, rfl, rfl, _, rfl, ite2 (fun _ => ?_) (fun _ => ?_)⟩
    · refine ⟨_, rfl, _, rfl, cs[j], m, rfl, rfl, ⟨by omega, by omega⟩, .ref c, rfl, _, rfl, c, _, _, j, rfl, rfl, hc, ?_, ?_⟩
      · unfold ixN
        rw [hj, List.length_map, if_pos (by omega), if_pos (by omega)]
        rfl
      · refine ⟨_, rfl, _, rfl, cs[j], m, rfl, rfl, by omega, ?_⟩
        refine q _ _ (Int.emod_nonneg _ (by omega)) (Int.emod_lt_of_pos _ (by omega)) (fun b _ hb => upd_ne hb) ⟨n, cs.set j (cs[j] / m), ?_, ?_, hac, by rw [List.length_set]; exact h0, by rw [List.length_set]; exact h63, ?_, hn⟩
        · rw [upd_ne hac]; exact ha
        · rw [upd_same, List.map_set]
        · intro z hz
          rcases List.mem_or_eq_of_mem_set hz with h | h
          · exact hnn z h
          · rw [h]; exact Int.ediv_nonneg hz0 (by omega)
    · refine ⟨.ref a, rfl, a, _, 0, _, rfl, rfl, hA, at2_0, n, 1, rfl, rfl, .ref a, rfl, a, _, 0, 0, rfl, rfl, ha, rfl, ?_⟩
      have ha' : (upd H a (.lst [.int (n + 1), .ref c])) a = some (.lst [.int (n + 1), .ref c]) := upd_same
      have hA' : SqL K (upd H a (.lst [.int (n + 1), .ref c])) a [.int (n + 1), .ref c] := SqL.of ha'
      refine ⟨_, rfl, cs[j], _, rfl, rfl, .inr ⟨by decide, by decide⟩, .ref a, rfl, a, _, 0, _, rfl, rfl, hA', at2_0, _, _, rfl, rfl, .inr ⟨by decide, by decide⟩, _, _, rfl, rfl, .inl ⟨_, rfl, ?_⟩⟩
      refine ⟨_, _, rfl, rfl, by show (0 : Int) < 2147483647; decide, ?_⟩
      refine ⟨_, rfl, _, _, rfl, rfl, .inr ⟨by decide, by decide⟩, .ref a, rfl, a, _, 0, _, rfl, rfl, hA', at2_0, _, _, rfl, rfl, .inr ⟨by decide, by decide⟩, _, _, rfl, rfl, .inl ⟨_, rfl, ?_⟩⟩
      refine ⟨_, _, rfl, rfl, by show (0 : Int) < 1000000007; decide, ?_⟩
      refine ⟨_, rfl, _, _, rfl, rfl, ⟨by decide, by decide⟩, _, rfl, _, m, rfl, rfl, by omega, ?_⟩
      refine q _ _ (Int.emod_nonneg _ (by omega)) (Int.emod_lt_of_pos _ (by omega)) (fun b hb _ => upd_ne hb) ⟨n + 1, cs, ha', ?_, hac, h0, h63, hnn, by omega⟩
      rw [upd_ne (Ne.symm hac)]
      exact hc
end
abbrev s_law_text : Stmt := topS 9
abbrev N_law_text : List Str := ["state", "most", "k"]
abbrev P_law_text : List Str := ["state", "most"]
theorem sc_law_text : FnScope N_law_text P_law_text (defScope s_law_text) := ⟨rfl, rfl, rfl, by decide +kernel, rfl, by decide +kernel, by decide +kernel⟩
section
variable {P : Program} {w : World} {K : PySem.W.Frag} {mg : Str → Option Value} {base : Heap} {cW : Addr}
theorem ok_law_text {f : Addr} {fd : FuncData} (F : Fun K "_law_text" "_law_text" s_law_text f fd) (T : Tx K w mg cW)
    (C__law_take : Cal P w K mg base CX0 1 "_law_take" P_law_take spTake) : FnOk P w K mg base CX0 2 f fd P_law_text spText := by
  refine F.ok sc_law_text (fun vs H Q E h => ?_) (fun cdv A outer s H vs Q E hr h => ?_)
  · obtain ⟨_, _, _, rfl, _⟩ := h
    rfl
  · obtain ⟨a, c, m, rfl, s0, hm, q⟩ := h
    have nd := sc_law_text.nd
    refine ⟨_, pss_one (ps_ret (pe_join pe_str (pe_lc (own := [("k", 2)]) (g := gName 2) (tt := tYes) rfl nd (pi_range1 (by rfl) T.z_range (pa_cons (pe_cal C__law_take hr (pa_cons (pv 0) (pa_cons (pe_op op_add (pv 1) pe_int) pa_nil))) pa_nil)) (blkOk_by (N := N_law_text) (sc := defScope s_law_text) (by decide +kernel)) (fun _ _ _ _ _ => (pg_name (i := 2) nd rfl (Or.inl rfl))) (fun _ _ _ _ _ => pts_nil) (fun _ _ _ _ _ => (pe_ix ix_str pe_str (pe_cal C__law_take hr (pa_cons (pv 0) (pa_cons pe_int pa_nil))) (fun _ _ => rfl)))))), ?_⟩
    refine ⟨⟨_, rfl⟩, .ref a, rfl, _, rfl, _, _, rfl, rfl, a, c, (m : Int) + 1, rfl, s0, by omega, by omega, fun v H1 v0 v1 e1 s1 => ?_⟩
    obtain ⟨n, rfl, hn⟩ := nat_of v0 v1
    refine ⟨_, rfl, by omega, by omega, fun D nD => ?_⟩
    have nDa := s1.ne nD
    have nD0 := (Mv.take s0 s1 e1).free D nD
    show ∃ W : Nat → Nat → Hp → Prop, _
    refine lc_range (lo := 0) (n := n) (fun i H' => ∃ xs : List Nat, xs.length = i ∧ (∀ z ∈ xs, z ∈ drawn) ∧ H' D = some (.lst (xs.map fun c => V.str ⟨#[c]⟩)) ∧ SL H' a c ∧ Mv a c H H')
      ⟨[], rfl, (by simp), upd_same, s1.same (same_upd nD), (Mv.take s0 s1 e1).new nD0⟩ ?_ ?_
    · rintro i H4 hi ⟨xs, lx, hx, hD, s4, m4⟩
      refine ⟨rfl, tyes ⟨_, rfl, a, c, 8, rfl, s4, by decide, by decide, fun v H5 v0 v8 e5 s5 => ?_⟩⟩
      obtain ⟨z, rfl, hz⟩ := nat_of v0 v8
      have hzl : z < drawn.length := by show z < 8; omega
      refine ⟨_, _, drawn[z], rfl, rfl, by decide +kernel, ?_, _, by rw [e5 D nDa.1 nDa.2]; exact hD, ?_, xs ++ [drawn[z]], by simp [lx], ?_, ?_, ?_, ?_⟩
      · rw [drawn_eq]
        exact atI_nat (List.getElem?_eq_getElem hzl)
      · rw [List.length_map, lx]
        exact Nat.lt_of_lt_of_le (show i < 1001 by omega) (by decide)
      · intro y hy
        rcases List.mem_append.mp hy with h | h
        · exact hx y h
        · rw [List.mem_singleton.mp h]
          exact List.getElem_mem hzl
      · rw [upd_same, List.map_append]
        rfl
      · exact s5.eq (upd_ne nDa.1.symm) (upd_ne nDa.2.symm)
      · exact (m4.trans (Mv.take s4 s5 e5)).new nD0
    · rintro H4 ⟨xs, lx, hx, hD, s4, m4⟩
      have et : (xs.map fun c => V.str (⟨#[c]⟩ : Str)) = (xs.map fun c => (⟨#[c]⟩ : Str)).map V.str := by rw [List.map_map]; rfl
      rw [et] at hD
      have tj := join_one xs
      refine ⟨_, D, xs.map fun c => (⟨#[c]⟩ : Str), rfl, rfl, .inl (SqL.of hD), ?_, ?_⟩
      · have := sum_le (fun l : Str => l.length) 1 (xs.map fun c => (⟨#[c]⟩ : Str)) fun x hx => by
          obtain ⟨y, hy, rfl⟩ := List.mem_map.mp hx
          exact Nat.le_refl 1
        have z : (Str.ofString "").length = 0 := by decide +kernel
        rw [z, Nat.mul_zero, Nat.add_zero]
        refine Nat.le_trans this ?_
        rw [List.length_map]
        omega
      · refine q _ H4 ?_ ?_ s4 m4
        · rw [TL.len_tl, tj, lx]; omega
        · intro z hz
          exact hx z (by rw [← tj]; exact hz)
end
end LW
namespace LW
open PySem PySem.Spec PyProof.Rows L2 GxR
abbrev s_law_body : Stmt := topS 10
abbrev N_law_body : List Str := ["state", "text", "bodies"]
abbrev P_law_body : List Str := ["state"]
theorem sc_law_body : FnScope N_law_body P_law_body (defScope s_law_body) := ⟨rfl, rfl, rfl, by decide +kernel, rfl, by decide +kernel, by decide +kernel⟩
/-- a body at will -/
def spBody : Sp := fun vs H Q _ => ∃ (a c : Addr), vs = [.ref a] ∧ SL H a c ∧ ∀ (b : Addr) (B : Bd) (H' : Hp), H' b = some (.tup (B.items.map kV)) → B.ok → H b = none → SL H' a c → Mv a c H H' → Q (.ref b) H'
theorem szl {n : Nat} (h : Nat.ble n 20 = true := by rfl) : n ≤ sizeLine := Nat.le_trans (Nat.le_of_ble_eq_true h) (by decide)
theorem drawn_ok {t : Str} (h : ∀ z ∈ t.cps.toList, z ∈ drawn) : PyData.strOk t = true := (strOk_iff t).mpr fun z hz => (by decide : ∀ z ∈ drawn, z < 0x110000) z (h z hz)
section
variable {P : Program} {w : World} {K : PySem.W.Frag} {mg : Str → Option Value} {base : Heap} {cW : Addr}
theorem ok_law_body {f : Addr} {fd : FuncData} (F : Fun K "_law_body" "_law_body" s_law_body f fd) (T : Tx K w mg cW)
    (C__law_take : Cal P w K mg base CX0 1 "_law_take" P_law_take spTake)
    (C__law_text : Cal P w K mg base CX0 2 "_law_text" P_law_text spText) : FnOk P w K mg base CX0 3 f fd P_law_body spBody := by
  refine F.ok sc_law_body (fun vs H Q E h => ?_) (fun cdv A outer s H vs Q E hr h => ?_)
  · obtain ⟨_, _, rfl, _⟩ := h
    rfl
  · obtain ⟨a, c, rfl, s0, q⟩ := h
    have nd := sc_law_body.nd
    refine ⟨_, pss_cons (ps_set (i := 1) nd rfl (Or.inl rfl) (pe_cal C__law_text hr (pa_cons (pv 0) (pa_cons pe_int pa_nil))))
  (pss_cons (ps_set (i := 2) nd rfl (Or.inl rfl) (pe_lst (pa_cons (pe_tup (pa_cons pe_str (pa_cons pe_int (pa_cons pe_int (pa_cons (pv 1) pa_nil))))) (pa_cons (pe_tup (pa_cons pe_str (pa_cons pe_int (pa_cons pe_str (pa_cons (pv 1) pa_nil))))) (pa_cons (pe_tup (pa_cons pe_str (pa_cons pe_str (pa_cons pe_str (pa_cons pe_int (pa_cons (pv 1) (pa_cons pe_int pa_nil))))))) (pa_cons (pe_tup (pa_cons pe_str pa_nil)) pa_nil))))))
  (pss_cons (ps_set (i := 2) nd rfl (Or.inl rfl) (pe_op op_cat (pv 2) (pe_lst (pa_cons (pe_tup (pa_cons pe_str (pa_cons (pv 1) pa_nil))) (pa_cons (pe_tup (pa_cons pe_str (pa_cons pe_int (pa_cons (pv 1) (pa_cons pe_str pa_nil))))) (pa_cons (pe_tup (pa_cons pe_str (pa_cons (pv 1) pa_nil))) (pa_cons (pe_tup (pa_cons pe_str (pa_cons (pv 1) pa_nil))) (pa_cons (pe_tup (pa_cons pe_str (pa_cons pe_int (pa_cons pe_int pa_nil)))) pa_nil))))))))
  (pss_one (ps_ret (pe_ix ix_list (pv 2) (pe_cal C__law_take hr (pa_cons (pv 0) (pa_cons pe_int pa_nil))) (fun _ _ => rfl)))))), ?_⟩
    refine ⟨_, rfl, a, c, 4, rfl, s0, by decide, fun t H0 ht4 hdr s00 m0 => ?_⟩
    have zt : ZOk t := ⟨drawn_ok hdr, ht4⟩
    refine ⟨_, rfl, szl, fun p1 n1 => ⟨_, rfl, szl, fun p2 n2 => ⟨_, rfl, szl, fun p3 n3 => ⟨szl, fun p4 n4 => ⟨szl, fun l1 k1 => ?_⟩⟩⟩⟩⟩
    refine ⟨_, rfl, _, rfl, szl, fun p5 n5 => ⟨_, rfl, szl, fun p6 n6 => ⟨_, rfl, szl, fun p7 n7 => ⟨_, rfl, szl, fun p8 n8 => ⟨szl, fun p9 n9 => ⟨szl, fun l2 k2 => ?_⟩⟩⟩⟩⟩⟩
    have L1 : Mv a c H _ := m0.new (p := p1) (o := .tup ((Bd.txt .part t).items.map kV)) (m0.free _ n1)
    have M2 : Mv a c H _ := L1.new (p := p2) (o := .tup ((Bd.txt .put t).items.map kV)) (L1.free _ n2)
    have L3 : Mv a c H _ := M2.new (p := p3) (o := .tup ((Bd.txt .piece t).items.map kV)) (M2.free _ n3)
    have L4 : Mv a c H _ := L3.new (p := p4) (o := .tup ((Bd.oth "open" []).items.map kV)) (L3.free _ n4)
    have L5 : Mv a c H _ := L4.new (p := l1) (o := .lst [.ref p1, .ref p2, .ref p3, .ref p4]) (L4.free _ k1)
    have L6 : Mv a c H _ := L5.new (p := p5) (o := .tup ((Bd.oth "kept" [.inr t]).items.map kV)) (L5.free _ n5)
    have L7 : Mv a c H _ := L6.new (p := p6) (o := .tup ((Bd.oth "name" [.inl 1, .inr t, .inr "0f"]).items.map kV)) (L6.free _ n6)
    have L8 : Mv a c H _ := L7.new (p := p7) (o := .tup ((Bd.oth "look" [.inr t]).items.map kV)) (L7.free _ n7)
    have L9 : Mv a c H _ := L8.new (p := p8) (o := .tup ((Bd.oth "wrong" [.inr t]).items.map kV)) (L8.free _ n8)
    have L10 : Mv a c H _ := L9.new (p := p9) (o := .tup ((Bd.oth "have" [.inl 1, .inl 4]).items.map kV)) (L9.free _ n9)
    have L11 : Mv a c H _ := L10.new (p := l2) (o := .lst [.ref p5, .ref p6, .ref p7, .ref p8, .ref p9]) (L10.free _ k2)
    have c2 := same_upd n2 (o := .tup ((Bd.txt .put t).items.map kV))
    have c3 := same_upd n3 (o := .tup ((Bd.txt .piece t).items.map kV))
    have c4 := same_upd n4 (o := .tup ((Bd.oth "open" []).items.map kV))
    have d1 := same_upd k1 (o := .lst [.ref p1, .ref p2, .ref p3, .ref p4])
    have c5 := same_upd n5 (o := .tup ((Bd.oth "kept" [.inr t]).items.map kV))
    have c6 := same_upd n6 (o := .tup ((Bd.oth "name" [.inl 1, .inr t, .inr "0f"]).items.map kV))
    have c7 := same_upd n7 (o := .tup ((Bd.oth "look" [.inr t]).items.map kV))
    have c8 := same_upd n8 (o := .tup ((Bd.oth "wrong" [.inr t]).items.map kV))
    have c9 := same_upd n9 (o := .tup ((Bd.oth "have" [.inl 1, .inl 4]).items.map kV))
    have d2 := same_upd k2 (o := .lst [.ref p5, .ref p6, .ref p7, .ref p8, .ref p9])
    have r9 := c9.trans d2
    have r8 := c8.trans r9
    have r7 := c7.trans r8
    have r6 := c6.trans r7
    have r5 := c5.trans r6
    have q1 := d1.trans r5
    have r4 := c4.trans q1
    have r3 := c3.trans r4
    have r2 := c2.trans r3
    have f1 := r2 p1 (.tup ((Bd.txt .part t).items.map kV)) upd_same
    have f2 := r3 p2 (.tup ((Bd.txt .put t).items.map kV)) upd_same
    have f3 := r4 p3 (.tup ((Bd.txt .piece t).items.map kV)) upd_same
    have f4 := q1 p4 (.tup ((Bd.oth "open" []).items.map kV)) upd_same
    have f5 := r6 p5 (.tup ((Bd.oth "kept" [.inr t]).items.map kV)) upd_same
    have f6 := r7 p6 (.tup ((Bd.oth "name" [.inl 1, .inr t, .inr "0f"]).items.map kV)) upd_same
    have f7 := r8 p7 (.tup ((Bd.oth "look" [.inr t]).items.map kV)) upd_same
    have f8 := r9 p8 (.tup ((Bd.oth "wrong" [.inr t]).items.map kV)) upd_same
    have f9 := d2 p9 (.tup ((Bd.oth "have" [.inl 1, .inl 4]).items.map kV)) upd_same
    have gl1 := r5 l1 (.lst [.ref p1, .ref p2, .ref p3, .ref p4]) upd_same
    refine ⟨l1, l2, _, _, rfl, rfl, gl1, upd_same, szl, fun l3 k3 => ?_⟩
    have L12 := L11.new (p := l3) (o := .lst ([.ref p1, .ref p2, .ref p3, .ref p4] ++ [.ref p5, .ref p6, .ref p7, .ref p8, .ref p9])) (L11.free _ k3)
    have c12 := same_upd k3 (o := .lst ([.ref p1, .ref p2, .ref p3, .ref p4] ++ [.ref p5, .ref p6, .ref p7, .ref p8, .ref p9]))
    have w1 : H p1 = none := m0.free _ n1
    have w2 : H p2 = none := L1.free _ n2
    have w3 : H p3 = none := M2.free _ n3
    have w4 : H p4 = none := L3.free _ n4
    have w5 : H p5 = none := L5.free _ n5
    have w6 : H p6 = none := L6.free _ n6
    have w7 : H p7 = none := L7.free _ n7
    have w8 : H p8 = none := L8.free _ n8
    have w9 : H p9 = none := L9.free _ n9
    have c1 := same_upd n1 (o := .tup ((Bd.txt .part t).items.map kV))
    have sB : SL _ a c := s00.same (c1.trans (r2.trans c12))
    have k1t : ∀ k ∈ ([.inr t] : List Key), kOk k := fun k hk => by rw [List.mem_singleton.mp hk]; exact zt.1
    have k2t : ∀ k ∈ ([.inl 1, .inl 4] : List Key), kOk k := fun k hk => by
      rcases List.mem_cons.mp hk with rfl | hk
      · exact True.intro
      · rw [List.mem_singleton.mp hk]; exact True.intro
    have k3t : ∀ k ∈ ([.inl 1, .inr t, .inr "0f"] : List Key), kOk k := fun k hk => by
      rcases List.mem_cons.mp hk with rfl | hk
      · exact True.intro
      · rcases List.mem_cons.mp hk with rfl | hk
        · exact zt.1
        · rw [List.mem_singleton.mp hk]; exact (by decide +kernel : PyData.strOk "0f" = true)
    refine ⟨_, rfl, _, rfl, a, c, 9, rfl, sB, by decide, by decide, fun v H2 v0 v9 e2 s2 => ?_⟩
    have mE : Mv a c H H2 := L12.trans (Mv.take sB s2 e2)
    have w0 : H l3 = none := L11.free _ k3
    have hl3 : H2 l3 = some (.lst ([.ref p1, .ref p2, .ref p3, .ref p4] ++ [.ref p5, .ref p6, .ref p7, .ref p8, .ref p9])) := by rw [e2 l3 (s0.ne w0).1 (s0.ne w0).2]; exact upd_same
    obtain ⟨j, rfl, hj⟩ := nat_of v0 v9
    obtain ⟨p, B, hi, h, ok, n⟩ : ∃ (p : Addr) (B : Bd), ([.ref p1, .ref p2, .ref p3, .ref p4] ++ [.ref p5, .ref p6, .ref p7, .ref p8, .ref p9] : List V)[j]? = some (.ref p) ∧ H2 p = some (.tup (B.items.map kV)) ∧ B.ok ∧ H p = none :=
      match j, hj with
      | 0, _ => ⟨p1, .txt .part t, rfl, (e2 p1 (s0.ne w1).1 (s0.ne w1).2).trans (c12 _ _ f1), zt, w1⟩
      | 1, _ => ⟨p2, .txt .put t, rfl, (e2 p2 (s0.ne w2).1 (s0.ne w2).2).trans (c12 _ _ f2), zt, w2⟩
      | 2, _ => ⟨p3, .txt .piece t, rfl, (e2 p3 (s0.ne w3).1 (s0.ne w3).2).trans (c12 _ _ f3), zt, w3⟩
      | 3, _ => ⟨p4, .oth "open" [], rfl, (e2 p4 (s0.ne w4).1 (s0.ne w4).2).trans (c12 _ _ f4), ⟨by decide, fun k z => nomatch z⟩, w4⟩
      | 4, _ => ⟨p5, .oth "kept" [.inr t], rfl, (e2 p5 (s0.ne w5).1 (s0.ne w5).2).trans (c12 _ _ f5), ⟨by decide, k1t⟩, w5⟩
      | 5, _ => ⟨p6, .oth "name" [.inl 1, .inr t, .inr "0f"], rfl, (e2 p6 (s0.ne w6).1 (s0.ne w6).2).trans (c12 _ _ f6), ⟨by decide, k3t⟩, w6⟩
      | 6, _ => ⟨p7, .oth "look" [.inr t], rfl, (e2 p7 (s0.ne w7).1 (s0.ne w7).2).trans (c12 _ _ f7), ⟨by decide, k1t⟩, w7⟩
      | 7, _ => ⟨p8, .oth "wrong" [.inr t], rfl, (e2 p8 (s0.ne w8).1 (s0.ne w8).2).trans (c12 _ _ f8), ⟨by decide, k1t⟩, w8⟩
      | 8, _ => ⟨p9, .oth "have" [.inl 1, .inl 4], rfl, (e2 p9 (s0.ne w9).1 (s0.ne w9).2).trans (c12 _ _ f9), ⟨by decide, k2t⟩, w9⟩
      | j + 9, h => absurd h (by omega)
    exact ⟨l3, _, _, .ref p, rfl, rfl, SqL.of hl3, atI_nat hi, q p B H2 h ok n s2 mE⟩
end
end LW
namespace LW
open PySem PySem.Spec PyProof.Rows L2 GxR
abbrev s_Wire_spoil : Stmt := inClass (topS 3) 5
abbrev N_Wire_spoil : List Str := ["self", "index", "place", "character", "client", "number", "body", "spoilt"]
abbrev P_Wire_spoil : List Str := ["self", "index", "place", "character"]
theorem sc_Wire_spoil : FnScope N_Wire_spoil P_Wire_spoil (defScope s_Wire_spoil) := ⟨rfl, rfl, rfl, by decide +kernel, rfl, by decide +kernel, by decide +kernel⟩
def sp_Wire_spoil (C : Addr) : Sp := fun vs H Q _ => ∃ (o dx l e b : Addr) (xs : List V) (i p c : Nat) (x y : Int) (B : Bd), vs = [.ref o, .int (i : Int), .int (p : Int), .str ⟨#[c]⟩] ∧ H o = some (.ins C dx (flW l)) ∧ H l = some (.lst xs) ∧ xs.length ≤ 60 ∧ xs[i]? = some (.ref e) ∧
  H e = some (.tup [.int x, .int y, .ref b]) ∧ H b = some (.tup (B.items.map kV)) ∧ B.ok ∧ p < 1000 ∧ c < 0x110000 ∧
  ∀ (e' b' : Addr) (H' : Hp), Same H H' → H e' = none → H' e' = some (.tup [.int x, .int y, .ref b']) → H' b' = some (.tup ((B.spl p c).items.map kV)) → Q (.bl (!PyData.eqv (B.spl p c).dat B.dat)) (L2.upd H' l (.lst (xs.set i (.ref e'))))
section
variable {P : Program} {w : World} {K : PySem.W.Frag} {mg : Str → Option Value} {base : Heap} {cW : Addr}
theorem ok_Wire_spoil {f : Addr} {fd : FuncData} (F : Fun K "spoil" "Wire.spoil" s_Wire_spoil f fd) (T : Tx K w mg cW)
    (C__spoilt_body : Cal P w K mg base CX0 1 "_spoilt_body" P_spoilt_body spSpl) : FnOk P w K mg base CX0 2 f fd P_Wire_spoil (sp_Wire_spoil cW) := by
  refine F.ok sc_Wire_spoil (fun vs H Q E h => ?_) (fun cdv A outer s H vs Q E hr h => ?_)
  · obtain ⟨_, _, _, _, _, _, _, _, _, _, _, _, rfl, _⟩ := h
    rfl
  · obtain ⟨o, dx, l, e, b, xs, i, p, c, x, y, B, rfl, ho, hl, h60, hi, he, hb, hok, hp, hc, q⟩ := h
    have nd := sc_Wire_spoil.nd
    refine ⟨_, pss_cons (ps_asg (pe_ix ix_list (pe_fld (pv 0) rfl) (pv 1) (fun _ _ => rfl)) (pg_tup rfl (pgs_cons (pg_name (i := 4) nd rfl (Or.inl rfl)) (pgs_cons (pg_name (i := 5) nd rfl (Or.inl rfl)) (pgs_cons (pg_name (i := 6) nd rfl (Or.inl rfl)) pgs_nil)))))
  (pss_cons (ps_set (i := 7) nd rfl (Or.inl rfl) (pe_cal C__spoilt_body hr (pa_cons (pv 6) (pa_cons (pv 2) (pa_cons (pv 3) pa_nil)))))
  (pss_cons (ps_asg (pe_tup (pa_cons (pv 4) (pa_cons (pv 5) (pa_cons (pv 7) pa_nil)))) (pg_sub (pe_fld (pv 0) rfl) (pv 1) set_list))
  (pss_one (ps_ret (pe_cmpR (op_neD hr.units) (pv 7) (pv 6) (nomark _)))))), ?_⟩
    have hil : i < xs.length := (List.getElem?_eq_some_iff.mp hi).1
    refine ⟨_, rfl, o, cW, dx, _, _, rfl, ho, T.clW, T.nWl, rfl, _, rfl, l, xs, _, .ref e, rfl, rfl, SqL.of hl, atI_nat hi, e, _, rfl, .inl (.inl he), rfl, _, _, rfl, _, _, rfl, _, _, rfl, rfl, ?_⟩
    refine ⟨_, rfl, _, rfl, _, rfl, b, B, p, c, rfl, hb, hok, hp, fun b' H1 s1 hb' fb => ?_⟩
    refine ⟨_, rfl, _, rfl, _, rfl, szl, fun e' ne' => ?_⟩
    have s2 : Same H1 (L2.upd H1 e' (.tup [.int x, .int y, .ref b'])) := same_upd ne'
    have s12 := s1.trans s2
    refine ⟨_, rfl, o, cW, dx, _, _, rfl, s12 _ _ ho, T.clW, T.nWl, rfl, _, rfl, l, xs, i, i, rfl, rfl, s12 _ _ hl, by unfold ixN; rw [if_pos (by omega), if_pos (by omega)]; rfl, ?_⟩
    have bl : b ≠ l := ne_of hb hl (by intro z; cases z)
    have b'l : b' ≠ l := ne_of hb' (s1 _ _ hl) (by intro z; cases z)
    have hB : (L2.upd (L2.upd H1 e' (.tup [.int x, .int y, .ref b'])) l (.lst (xs.set i (.ref e')))) b = some (.tup (B.items.map kV)) := by rw [upd_ne bl]; exact s12 _ _ hb
    have hB' : (L2.upd (L2.upd H1 e' (.tup [.int x, .int y, .ref b'])) l (.lst (xs.set i (.ref e')))) b' = some (.tup ((B.spl p c).items.map kV)) := by rw [upd_ne b'l]; exact s2 _ _ hb'
    refine ⟨_, rfl, _, rfl, _, _, Bd.dp hB', Bd.dp hB, shaped_of (Bd.lay (Bd.spl_ok hok hc)) (by decide), shaped_of (Bd.lay hok) (by decide), ?_⟩
    exact q e' b' _ s12 (s1.free ne') upd_same (s2 _ _ hb')
end
end LW
namespace LW
open PySem PySem.Spec PyProof.Rows L2 GxR
theorem neq_str (x y : Str) : (!decide (V.str x = V.str y)) = decide (x ≠ y) := by
  by_cases h : x = y
  · subst h; simp
  · have : V.str x ≠ V.str y := fun e => h (by injection e)
    simp [h]
theorem ifT {x : Int} {A B : Prop} (h : A) : if decide (V.int x = V.int x) = true then A else B := by rw [if_pos (decide_eq_true rfl)]; exact h
theorem ifF {x y : Int} {A B : Prop} (n : x ≠ y) (h : B) : if decide (V.int x = V.int y) = true then A else B := by
  rw [if_neg (fun z => n (by have := of_decide_eq_true z; injection this))]; exact h
/-! ### the wire and the law's own list tell the same letters -/
abbrev Ltr := Int × Int × Bd
def Let (H : Hp) (e : Addr) (E : Ltr) : Prop := ∃ b, H e = some (.tup [.int E.1, .int E.2.1, .ref b]) ∧ H b = some (.tup (E.2.2.items.map kV))
structure Hold (H : Hp) (ws : List Addr) (D : List Ltr) : Prop where
  len : ws.length = D.length
  at_ : ∀ (i : Nat) (e : Addr) (E : Ltr), ws[i]? = some e → D[i]? = some E → Let H e E
def TupK (H H' : Hp) : Prop := ∀ b xs, H b = some (.tup xs) → H' b = some (.tup xs)
theorem TupK.trans {H H1 H2 : Hp} (h : TupK H H1) (g : TupK H1 H2) : TupK H H2 := fun b xs e => g b xs (h b xs e)
theorem TupK.same {H H' : Hp} (h : Same H H') : TupK H H' := fun b xs e => h b _ e
theorem TupK.lst {H : Hp} {l : Addr} {xs ys : List V} (h : H l = some (.lst xs)) : TupK H (L2.upd H l (.lst ys)) := fun b zs e => by
  rw [upd_ne (show b ≠ l from ne_of e h (by intro z; cases z))]; exact e
theorem Let.keep {H H' : Hp} {e : Addr} {E : Ltr} (h : Let H e E) (k : TupK H H') : Let H' e E := let ⟨b, h1, h2⟩ := h; ⟨b, k _ _ h1, k _ _ h2⟩
theorem Hold.keep {H H' : Hp} {ws : List Addr} {D : List Ltr} (h : Hold H ws D) (k : TupK H H') : Hold H' ws D := ⟨h.len, fun i e E h1 h2 => (h.at_ i e E h1 h2).keep k⟩
theorem Hold.nil (H : Hp) : Hold H [] [] := ⟨rfl, fun i e E h => nomatch h⟩
theorem Hold.snoc {H : Hp} {ws : List Addr} {D : List Ltr} {e : Addr} {E : Ltr} (h : Hold H ws D) (he : Let H e E) : Hold H (ws ++ [e]) (D ++ [E]) := by
  refine ⟨by rw [List.length_append, List.length_append, h.len]; rfl, fun i e' E' h1 h2 => ?_⟩
  by_cases hi : i < ws.length
  · rw [List.getElem?_append_left hi] at h1
    rw [List.getElem?_append_left (by rw [← h.len]; exact hi)] at h2
    exact h.at_ i e' E' h1 h2
  · rw [List.getElem?_append_right (by omega)] at h1
    rw [List.getElem?_append_right (by rw [← h.len]; omega), ← h.len] at h2
    cases hk : i - ws.length with
    | zero =>
      rw [hk] at h1 h2
      cases h1; cases h2
      exact he
    | succ n => rw [hk] at h1; cases h1
theorem Hold.erase {H : Hp} {ws : List Addr} {D : List Ltr} (h : Hold H ws D) (i : Nat) : Hold H (ws.eraseIdx i) (D.eraseIdx i) := by
  refine ⟨by rw [List.length_eraseIdx, List.length_eraseIdx, h.len], fun j e E h1 h2 => ?_⟩
  rw [List.getElem?_eraseIdx] at h1 h2
  split at h1
  · rw [if_pos (by assumption)] at h2
    exact h.at_ j e E h1 h2
  · rw [if_neg (by assumption)] at h2
    exact h.at_ _ e E h1 h2
theorem Hold.set {H : Hp} {ws : List Addr} {D : List Ltr} {e : Addr} {E : Ltr} (h : Hold H ws D) (i : Nat) (he : Let H e E) : Hold H (ws.set i e) (D.set i E) := by
  refine ⟨by rw [List.length_set, List.length_set, h.len], fun j e' E' h1 h2 => ?_⟩
  rw [List.getElem?_set] at h1 h2
  by_cases hj : i = j
  · rw [if_pos hj] at h1 h2
    split at h1
    · rw [if_pos (by rw [← h.len]; assumption)] at h2
      cases h1; cases h2
      exact he
    · cases h1
  · rw [if_neg hj] at h1 h2
    exact h.at_ j e' E' h1 h2
def Ltr.dat (E : Ltr) : PyData := .tuple [.int E.1, .int E.2.1, E.2.2.dat]
theorem Let.dp {K : PySem.W.Frag} {H : Hp} {e : Addr} {E : Ltr} (h : Let H e E) : Dp K H (.ref e) (Ltr.dat E) := by
  obtain ⟨b, h1, h2⟩ := h
  exact .tup (SqT.of h1) (.cons (.int _) (.cons (.int _) (.cons (Bd.dp h2) .nil)))
theorem Ltr.lay {E : Ltr} (h : E.2.2.ok) : (Ltr.dat E).canLay0 = true ∧ (Ltr.dat E).depth ≤ 2 := by
  refine lay_tup (n := 1) (lay_all _ fun d hd => ?_)
  rcases List.mem_cons.mp hd with rfl | hd
  · exact ⟨rfl, Nat.zero_le _⟩
  · rcases List.mem_cons.mp hd with rfl | hd
    · exact ⟨rfl, Nat.zero_le _⟩
    · rw [List.mem_singleton.mp hd]; exact Bd.lay h
theorem Hold.dps {K : PySem.W.Frag} {H : Hp} : ∀ {ws : List Addr} {D : List Ltr}, Hold H ws D → DpAll K H (ws.map V.ref) (D.map Ltr.dat)
  | [], [], _ => .nil
  | [], _ :: _, h => nomatch h.len
  | _ :: _, [], h => nomatch h.len
  | e :: ws, E :: D, h => .cons (h.at_ 0 e E rfl rfl).dp (Hold.dps ⟨Nat.succ.inj h.len, fun i e' E' h1 h2 => h.at_ (i + 1) e' E' h1 h2⟩)
theorem Hold.dp {K : PySem.W.Frag} {H : Hp} {ws : List Addr} {D : List Ltr} {l : Addr} (h : Hold H ws D) (hl : H l = some (.lst (ws.map V.ref))) : Dp K H (.ref l) (.list (D.map Ltr.dat)) := .lst (SqL.of hl) h.dps
theorem lay_due {D : List Ltr} (h : ∀ E ∈ D, E.2.2.ok) : (PyData.list (D.map Ltr.dat)).canLay0 = true ∧ (PyData.list (D.map Ltr.dat)).depth ≤ 3 := by
  refine lay_lst (n := 2) (lay_all _ fun d hd => ?_)
  obtain ⟨E, hE, rfl⟩ := List.mem_map.mp hd
  exact Ltr.lay (h E hE)
/-- a list of addresses is none of the law's own -/
theorem SL.ne_refs {H : Hp} {a c l : Addr} {ws : List Addr} (s : SL H a c) (h : H l = some (.lst (ws.map V.ref))) : l ≠ a ∧ l ≠ c := by
  obtain ⟨n, cs, h1, h2, _, h0, _⟩ := s
  refine ⟨ne_of h h1 fun z => ?_, ne_of h h2 fun z => ?_⟩
  · injection z with z
    cases ws with
    | nil => cases z
    | cons w r => injection z with z _; cases z
  · injection z with z
    cases ws with
    | nil => cases cs with
      | nil => exact absurd h0 (by simp)
      | cons x r => cases z
    | cons w r => cases cs with
      | nil => cases z
      | cons x r => injection z with z _; cases z
theorem SL.ne_tupl {H : Hp} {a c l : Addr} {xs : List V} (s : SL H a c) (h : H l = some (.tup xs)) : l ≠ a ∧ l ≠ c := by
  obtain ⟨n, cs, h1, h2, _⟩ := s
  exact ⟨ne_of h h1 (by intro z; cases z), ne_of h h2 (by intro z; cases z)⟩
theorem sl_ins {H : Hp} {a c l C dx : Addr} {fs : List (Str × V)} (s : SL H a c) (h : H l = some (.ins C dx fs)) : l ≠ a ∧ l ≠ c := by
  obtain ⟨n, cs, h1, h2, _, h3, _⟩ := s
  exact ⟨ne_of h h1 (by intro z; cases z), ne_of h h2 (by intro z; cases z)⟩
theorem TupK.mv {a c : Addr} {H H' : Hp} (s : SL H a c) (m : Mv a c H H') : TupK H H' := fun b xs e => m.keep b _ (s.ne_tupl e).1 (s.ne_tupl e).2 e
structure St (C a c o l d : Addr) (H : Hp) (ws ds : List Addr) (D : List Ltr) : Prop where
  sl : SL H a c
  ob : ∃ dx, H o = some (.ins C dx (flW l))
  hl : H l = some (.lst (ws.map V.ref))
  hd : H d = some (.lst (ds.map V.ref))
  ld : l ≠ d
  w : Hold H ws D
  u : Hold H ds D
  ok : ∀ E ∈ D, E.2.2.ok
  len : D.length ≤ 60
theorem St.mv {C a c o l d : Addr} {H H' : Hp} {ws ds : List Addr} {D : List Ltr} (S : St C a c o l d H ws ds D) (m : Mv a c H H') (s' : SL H' a c) : St C a c o l d H' ws ds D := by
  obtain ⟨dx, ho⟩ := S.ob
  have no := sl_ins S.sl ho
  exact ⟨s', ⟨dx, m.keep _ _ no.1 no.2 ho⟩, m.keep _ _ (S.sl.ne_refs S.hl).1 (S.sl.ne_refs S.hl).2 S.hl, m.keep _ _ (S.sl.ne_refs S.hd).1 (S.sl.ne_refs S.hd).2 S.hd, S.ld, S.w.keep (.mv S.sl m), S.u.keep (.mv S.sl m), S.ok, S.len⟩
theorem St.same {C a c o l d : Addr} {H H' : Hp} {ws ds : List Addr} {D : List Ltr} (S : St C a c o l d H ws ds D) (m : Same H H') : St C a c o l d H' ws ds D := S.mv (.same m) (S.sl.same m)
theorem St.take {C a c o l d : Addr} {H H' : Hp} {ws ds : List Addr} {D : List Ltr} (S : St C a c o l d H ws ds D) (e : ∀ b, b ≠ a → b ≠ c → H' b = H b) (s' : SL H' a c) : St C a c o l d H' ws ds D := S.mv (.take S.sl s' e) s'
theorem St.wl {C a c o l d : Addr} {H : Hp} {ws ds : List Addr} {D : List Ltr} (S : St C a c o l d H ws ds D) : ws.length = D.length := S.w.len
theorem St.dl {C a c o l d : Addr} {H : Hp} {ws ds : List Addr} {D : List Ltr} (S : St C a c o l d H ws ds D) : ds.length = D.length := S.u.len
/-- a new list on the wire -/
theorem St.putW {C a c o l d : Addr} {H : Hp} {ws ds : List Addr} {D : List Ltr} (S : St C a c o l d H ws ds D) {zs : List V} :
    let H' := L2.upd H l (.lst zs); SL H' a c ∧ (∃ dx, H' o = some (.ins C dx (flW l))) ∧ H' d = some (.lst (ds.map V.ref)) ∧ TupK H H' := by
  obtain ⟨dx, ho⟩ := S.ob
  have n := S.sl.ne_refs S.hl
  exact ⟨S.sl.eq (upd_ne n.1.symm) (upd_ne n.2.symm), ⟨dx, by rw [upd_ne (ne_of ho S.hl (by intro z; cases z))]; exact ho⟩, by rw [upd_ne S.ld.symm]; exact S.hd, .lst S.hl⟩
theorem erase_map {α β : Type} (f : α → β) : ∀ (xs : List α) (j : Nat), (xs.map f).eraseIdx j = (xs.eraseIdx j).map f
  | [], _ => rfl
  | x :: xs, 0 => rfl
  | x :: xs, j + 1 => by
    show f x :: (xs.map f).eraseIdx j = f x :: (xs.eraseIdx j).map f
    rw [erase_map f xs j]
theorem cut_erase {xs : List V} {j : Nat} (h : j < xs.length) : cutV xs none (some (j : Int)) ++ cutV xs (some ((j : Int) + 1)) none = xs.eraseIdx j := by
  unfold cutV
  have e2 : HT.sIx xs.length 0 (some ((j : Int) + 1)) = j + 1 := by
    have := HT.sIx_nat xs.length 0 (j + 1)
    rw [show ((j : Int) + 1) = ((j + 1 : Nat) : Int) by omega, this]; omega
  rw [HT.sIx_none, HT.sIx_none, HT.sIx_nat, e2, List.drop_zero, Nat.sub_zero, Nat.min_eq_left (Nat.le_of_lt h), List.take_of_length_le (l := xs.drop (j + 1)) (by rw [List.length_drop]; omega), List.eraseIdx_eq_take_drop_succ]
theorem St.erased {C a c o l d d3 : Addr} {H H' : Hp} {ws ds : List Addr} {D : List Ltr} {j : Nat} (S : St C a c o l d H ws ds D) (m : Same (L2.upd H l (.lst ((ws.map V.ref).eraseIdx j))) H') (n : (L2.upd H l (.lst ((ws.map V.ref).eraseIdx j))) d3 = none) (h3 : H' d3 = some (.lst ((ds.map V.ref).eraseIdx j))) :
    St C a c o l d3 H' (ws.eraseIdx j) (ds.eraseIdx j) (D.eraseIdx j) := by
  obtain ⟨p1, ⟨dx, p2⟩, p3, p4⟩ := S.putW (zs := (ws.map V.ref).eraseIdx j)
  have k := p4.trans (.same m)
  rw [erase_map] at h3
  refine ⟨p1.same m, ⟨dx, m _ _ p2⟩, by rw [← erase_map]; exact m _ _ upd_same, h3, ne_of_none upd_same n, (S.w.keep k).erase j, (S.u.keep k).erase j, fun E hE => S.ok E (List.mem_of_mem_eraseIdx hE), Nat.le_trans (by rw [List.length_eraseIdx]; split <;> omega) S.len⟩
theorem St.spoilt {C a c o l d e1 e2 : Addr} {H H' : Hp} {ws ds : List Addr} {D : List Ltr} {j : Nat} {E : Ltr} (S : St C a c o l d H ws ds D) (m : Same (L2.upd H l (.lst ((ws.map V.ref).set j (.ref e1)))) H') (h1 : Let H' e1 E) (h2 : Let H' e2 E) (hok : E.2.2.ok) :
    St C a c o l d (L2.upd H' d (.lst ((ds.map V.ref).set j (.ref e2)))) (ws.set j e1) (ds.set j e2) (D.set j E) := by
  obtain ⟨p1, ⟨dx, p2⟩, p3, p4⟩ := S.putW (zs := (ws.map V.ref).set j (.ref e1))
  have q1 := p1.same m
  have q3 := m _ _ p3
  have n := q1.ne_refs q3
  have k := TupK.lst (ys := (ds.map V.ref).set j (.ref e2)) q3
  have kk := (p4.trans (.same m)).trans k
  exact ⟨q1.eq (upd_ne n.1.symm) (upd_ne n.2.symm), ⟨dx, by rw [upd_ne (ne_of (m _ _ p2) q3 (by intro z; cases z))]; exact m _ _ p2⟩, by rw [upd_ne S.ld, List.map_set]; exact m _ _ upd_same, by rw [upd_same, List.map_set], S.ld, (S.w.keep kk).set j (h1.keep k), (S.u.keep kk).set j (h2.keep k), fun E' hE => by
    rcases List.mem_or_eq_of_mem_set hE with h | h
    · exact S.ok E' h
    · rw [h]; exact hok, by rw [List.length_set]; exact S.len⟩
/-- both changed alike -/
theorem St.both {C a c o l d : Addr} {H : Hp} {ws ds ws' ds' : List Addr} {D D' : List Ltr} (S : St C a c o l d H ws ds D) (h1 : Hold H ws' D') (h2 : Hold H ds' D') (hok : ∀ E ∈ D', E.2.2.ok) (hl : D'.length ≤ 60) :
    St C a c o l d (L2.upd (L2.upd H l (.lst (ws'.map V.ref))) d (.lst (ds'.map V.ref))) ws' ds' D' := by
  obtain ⟨p1, ⟨dx, p2⟩, p3, p4⟩ := S.putW (zs := ws'.map V.ref)
  have n := S.sl.ne_refs S.hd
  have k := TupK.lst (ys := ds'.map V.ref) p3
  exact ⟨p1.eq (upd_ne n.1.symm) (upd_ne n.2.symm), ⟨dx, by rw [upd_ne (ne_of p2 p3 (by intro z; cases z))]; exact p2⟩, by rw [upd_ne S.ld, upd_same], upd_same, S.ld, (h1.keep p4).keep k, (h2.keep p4).keep k, hok, hl⟩
end LW
namespace LW
open PySem PySem.Spec PyProof.Rows L2 GxR
abbrev s_law : Stmt := topS 12
abbrev N_law : List Str := ["script", "state", "wire", "due", "busy", "turn", "kind", "letter", "index", "place", "character", "client", "number", "body", "changed"]
abbrev P_law : List Str := ["script"]
theorem sc_law : FnScope N_law P_law (defScope s_law) := ⟨rfl, rfl, rfl, by decide +kernel, rfl, by decide +kernel, by decide +kernel⟩
def sp_law (K : PySem.W.Frag) : Sp := fun vs H Q _ => ∃ (l : Addr) (ns : List Int), vs = [.ref l] ∧ SqL K H l (ns.map V.int) ∧ ns.length ≤ 63 ∧ ∀ H', Q (.bl true) H'
def sgm (v : V) (a o d : Addr) (n : Int) (v5 v6 v7 v8 v9 v10 v11 v12 v13 v14 : Option V) : L2.St := [some v, some (.ref a), some (.ref o), some (.ref d), some (.int n), v5, v6, v7, v8, v9, v10, v11, v12, v13, v14]
/-- between two turns -/
def Mid (C : Addr) (v : V) (a c o l : Addr) (n : Int) (σ : L2.St) (H : Hp) : Prop := ∃ (d : Addr) (ws ds : List Addr) (D : List Ltr) (v5 v6 v7 v8 v9 v10 v11 v12 v13 v14 : Option V), σ = sgm v a o d n v5 v6 v7 v8 v9 v10 v11 v12 v13 v14 ∧ St C a c o l d H ws ds D
/-- the signs that spoil -/
def abt : List Nat := [97, 98, 126]
theorem abt_eq : (Str.ofString "ab~").cps.toList = abt := by decide +kernel
theorem or_flat {c : Prop} [Decidable c] {b : Bool} {A B U : Prop} (hU : (if b = true then A else B) → U) (hA : A) (hB : ¬ c → b = false → B) : if decide c = true then (if true = true then A else B) else U := by
  by_cases hc : c
  · rw [if_pos (decide_eq_true hc), if_pos rfl]; exact hA
  · rw [if_neg (by rw [decide_eq_false hc]; exact Bool.false_ne_true)]
    refine hU ?_
    cases b with
    | true => rw [if_pos rfl]; exact hA
    | false => rw [if_neg Bool.false_ne_true]; exact hB hc rfl
theorem len_of {C a c o l d : Addr} {H : Hp} {ws ds : List Addr} {D : List Ltr} (S : St C a c o l d H ws ds D) : (ws.map V.ref).length = D.length ∧ (ds.map V.ref).length = D.length := ⟨by rw [List.length_map, S.wl], by rw [List.length_map, S.dl]⟩
section
variable {P : Program} {w : World} {K : PySem.W.Frag} {mg : Str → Option Value} {base : Heap} {cW : Addr}
theorem ok_law {f : Addr} {fd : FuncData} (F : Fun K "law" "law" s_law f fd) (T : Tx K w mg cW)
    (C_Wire : CalK P w K mg base CX0 1 "Wire" cW P_Wire___init (sp_Wire___init cW))
    (C_Wire_deliver : CalM P w K mg base CX0 1 cW "deliver" P_Wire_deliver (sp_Wire_deliver cW))
    (C_Wire_double : CalM P w K mg base CX0 2 cW "double" P_Wire_double (sp_Wire_double cW))
    (C_Wire_lose : CalM P w K mg base CX0 1 cW "lose" P_Wire_lose (sp_Wire_lose cW))
    (C_Wire_send : CalM P w K mg base CX0 1 cW "send" P_Wire_send (sp_Wire_send cW))
    (C_Wire_spoil : CalM P w K mg base CX0 2 cW "spoil" P_Wire_spoil (sp_Wire_spoil cW))
    (C__law_body : Cal P w K mg base CX0 3 "_law_body" P_law_body spBody)
    (C__law_spoilt : Cal P w K mg base CX0 1 "_law_spoilt" P_law_spoilt spSpl)
    (C__law_state : Cal P w K mg base CX0 1 "_law_state" P_law_state (spState K))
    (C__law_take : Cal P w K mg base CX0 1 "_law_take" P_law_take spTake) : FnOk P w K mg base CX0 4 f fd P_law (sp_law K) := by
  refine F.ok sc_law (fun vs H Q E h => ?_) (fun cdv A outer s H vs Q E hr h => ?_)
  · obtain ⟨_, _, rfl, _⟩ := h
    rfl
  · obtain ⟨l0, ns, rfl, hS, hl, hq⟩ := h
    have nd := sc_law.nd
    refine ⟨_, pss_cons (ps_set (i := 1) nd rfl (Or.inl rfl) (pe_cal C__law_state hr (pa_cons (pv 0) pa_nil)))
  (pss_cons (ps_set (i := 2) nd rfl (Or.inl rfl) (pe_calK0 C_Wire hr))
  (pss_cons (ps_set (i := 3) nd rfl (Or.inl rfl) (pe_lst pa_nil))
  (pss_cons (ps_set (i := 4) nd rfl (Or.inl rfl) (pe_cal C__law_take hr (pa_cons (pv 1) (pa_cons pe_int pa_nil))))
  (pss_cons (ps_for PassesOwn.never rfl (pi_range1 (by rfl) T.z_range (pa_cons (pe_cal C__law_take hr (pa_cons (pv 1) (pa_cons pe_int pa_nil))) pa_nil)) (pg_name (i := 5) nd rfl (Or.inl rfl))
    (pss_cons (ps_set (i := 6) nd rfl (Or.inl rfl) (pe_cal C__law_take hr (pa_cons (pv 1) (pa_cons (pe_op op_add pe_int (pe_op op_mul pe_int (pv 4))) pa_nil))))
  (pss_cons (ps_set (i := 7) nd rfl (Or.inl rfl) (pe_tup (pa_cons (pe_cal C__law_take hr (pa_cons (pv 1) (pa_cons pe_int pa_nil))) (pa_cons (pe_cal C__law_take hr (pa_cons (pv 1) (pa_cons pe_int pa_nil))) (pa_cons (pe_cal C__law_body hr (pa_cons (pv 1) pa_nil)) pa_nil)))))
  (C8.pss_cut (ps_if (PW.pt (pw_or (pt_cmpR op_gt (pv 6) pe_int (nomark _)) (pw_or1 (pt_cmpR op_eq (pe_callB call_len_seq (by rfl) T.z_len (by decide +kernel) (pa_cons (pv 3) pa_nil)) pe_int (nomark _)))))
    (pss_cons (ps_if (pt_cmpR op_ne (pe_callB call_repr_bl (by rfl) T.z_repr (by decide +kernel) (pa_cons (pe_calM (pv 2) C_Wire_send hr (pa_cons (pv 7) pa_nil)) pa_nil)) (pe_callB call_repr_bl (by rfl) T.z_repr (by decide +kernel) (pa_cons (pe_cmpR op_lt (pe_callB call_len_seq (by rfl) T.z_len (by decide +kernel) (pa_cons (pv 3) pa_nil)) pe_int (nomark _)) pa_nil)) (nomark _))
    (pss_one (ps_ret pe_bl))
    (pss_nil))
  (pss_one (ps_if (pt_cmpR op_lt (pe_callB call_len_seq (by rfl) T.z_len (by decide +kernel) (pa_cons (pv 3) pa_nil)) pe_int (nomark _))
    (pss_one (ps_expr (pe_bm PySem.F.plainAttrs_list PySem.F.slot_list_append PySem.F.type_list_append mt_append (pv 3) (pa_cons (pv 7) pa_nil))))
    (pss_nil))))
    (pss_cons (ps_set (i := 8) nd rfl (Or.inl rfl) (pe_cal C__law_take hr (pa_cons (pv 1) (pa_cons (pe_callB call_len_seq (by rfl) T.z_len (by decide +kernel) (pa_cons (pv 3) pa_nil)) pa_nil))))
  (pss_cons (ps_if (PW.pt (pw_or (PW.pt (pw_and (pt_cmpR op_eq (pv 6) pe_int (nomark _)) (pw_and1 (pt_cmpR (op_neD hr.units) (pe_calM (pv 2) C_Wire_deliver hr (pa_cons (pv 8) pa_nil)) (pe_ix ix_list (pv 3) (pv 8) (fun _ _ => rfl)) (nomark _))))) (pw_or1 (PW.pt (pw_and (pt_cmpR op_eq (pv 6) pe_int (nomark _)) (pw_and1 (pt_cmpR op_notN (pe_calM (pv 2) C_Wire_lose hr (pa_cons (pv 8) pa_nil)) pe_non (nomark _))))))))
    (pss_one (ps_ret pe_bl))
    (pss_nil))
  (pss_cons (ps_if (pt_cmpR op_lt (pv 6) pe_int (nomark _))
    (pss_one (ps_set (i := 3) nd rfl (Or.inl rfl) (pe_op op_cat (pe_slice sl_list (pv 3) po_none (po_some (pv 8))) (pe_slice sl_list (pv 3) (po_some (pe_op op_add (pv 8) pe_int)) po_none))))
    (pss_nil))
  (pss_cons (ps_if (pt_cmpR op_eq (pv 6) pe_int (nomark _))
    (pss_cons (ps_if (pt_cmpR op_ne (pe_callB call_repr_bl (by rfl) T.z_repr (by decide +kernel) (pa_cons (pe_calM (pv 2) C_Wire_double hr (pa_cons (pv 8) pa_nil)) pa_nil)) (pe_callB call_repr_bl (by rfl) T.z_repr (by decide +kernel) (pa_cons (pe_cmpR op_lt (pe_callB call_len_seq (by rfl) T.z_len (by decide +kernel) (pa_cons (pv 3) pa_nil)) pe_int (nomark _)) pa_nil)) (nomark _))
    (pss_one (ps_ret pe_bl))
    (pss_nil))
  (pss_one (ps_if (pt_cmpR op_lt (pe_callB call_len_seq (by rfl) T.z_len (by decide +kernel) (pa_cons (pv 3) pa_nil)) pe_int (nomark _))
    (pss_one (ps_expr (pe_bm PySem.F.plainAttrs_list PySem.F.slot_list_append PySem.F.type_list_append mt_append (pv 3) (pa_cons (pe_ix ix_list (pv 3) (pv 8) (fun _ _ => rfl)) pa_nil))))
    (pss_nil))))
    (pss_nil))
  (pss_one (ps_if (pt_cmpR op_eq (pv 6) pe_int (nomark _))
    (pss_cons (ps_set (i := 9) nd rfl (Or.inl rfl) (pe_cal C__law_take hr (pa_cons (pv 1) (pa_cons pe_int pa_nil))))
  (pss_cons (ps_set (i := 10) nd rfl (Or.inl rfl) (pe_ix ix_str pe_str (pe_cal C__law_take hr (pa_cons (pv 1) (pa_cons pe_int pa_nil))) (fun _ _ => rfl)))
  (pss_cons (ps_asg (pe_ix ix_list (pv 3) (pv 8) (fun _ _ => rfl)) (pg_tup rfl (pgs_cons (pg_name (i := 11) nd rfl (Or.inl rfl)) (pgs_cons (pg_name (i := 12) nd rfl (Or.inl rfl)) (pgs_cons (pg_name (i := 13) nd rfl (Or.inl rfl)) pgs_nil)))))
  (pss_cons (ps_set (i := 14) nd rfl (Or.inl rfl) (pe_cal C__law_spoilt hr (pa_cons (pv 13) (pa_cons (pv 9) (pa_cons (pv 10) pa_nil)))))
  (pss_cons (ps_if (pt_cmpR op_ne (pe_callB call_repr_bl (by rfl) T.z_repr (by decide +kernel) (pa_cons (pe_calM (pv 2) C_Wire_spoil hr (pa_cons (pv 8) (pa_cons (pv 9) (pa_cons (pv 10) pa_nil)))) pa_nil)) (pe_callB call_repr_bl (by rfl) T.z_repr (by decide +kernel) (pa_cons (pe_cmpR (op_neD hr.units) (pv 14) (pv 13) (nomark _)) pa_nil)) (nomark _))
    (pss_one (ps_ret pe_bl))
    (pss_nil))
  (pss_one (ps_asg (pe_tup (pa_cons (pv 11) (pa_cons (pv 12) (pa_cons (pv 14) pa_nil)))) (pg_sub (pv 3) (pv 8) set_list))))))))
    (pss_nil))))))))
  (pss_one (ps_if (PW.pt (pw_or (pt_cmpR (op_neD hr.units) (pe_fld (pv 2) rfl) (pv 3) (nomark _)) (pw_or1 (pt_cmpR op_ne (pe_gint T.cM) pe_int (nomark _)))))
    (pss_one (ps_ret pe_bl))
    (pss_nil)))))))
  (pss_one (ps_ret pe_bl)))))), ?_⟩
    refine ⟨_, rfl, l0, ns, rfl, hS, hl, fun a c H1 na nc sm1 s1 => ?_⟩
    refine fun o dx no ndx nex => ⟨o, dx, rfl, upd_same, fun l nl => ⟨rfl, Nat.zero_le _, fun d nd' => ?_⟩⟩
    have S0 : St cW a c o l d (L2.upd (L2.upd (L2.upd (L2.upd (L2.upd H1 dx (.own o)) o (.ins cW dx [])) l (.lst [])) o (.ins cW dx (flW l))) d (.lst [])) [] [] [] := by
      have od : (L2.upd (L2.upd (L2.upd (L2.upd H1 dx (.own o)) o (.ins cW dx [])) l (.lst [])) o (.ins cW dx (flW l))) o = some (.ins cW dx (flW l)) := upd_same
      have lo : l ≠ o := fun z => by rw [z, upd_same] at nl; cases nl
      have ll : (L2.upd (L2.upd (L2.upd (L2.upd H1 dx (.own o)) o (.ins cW dx [])) l (.lst [])) o (.ins cW dx (flW l))) l = some (.lst []) := by rw [upd_ne lo, upd_same]
      have ndx' : dx ≠ o := nex
      have sm : Same H1 (L2.upd (L2.upd (L2.upd (L2.upd H1 dx (.own o)) o (.ins cW dx [])) l (.lst [])) o (.ins cW dx (flW l))) := fun b v e => by
        have nl1 : l ≠ dx → H1 l = none := fun z => by rw [upd_ne lo, upd_ne z] at nl; exact nl
        have bl : b ≠ l := fun z => by
          by_cases h : l = dx
          · rw [z, h, ndx] at e; cases e
          · rw [z, nl1 h] at e; cases e
        rw [upd_ne (ne_of_none e no), upd_ne bl, upd_ne (ne_of_none e no), upd_ne (ne_of_none e ndx)]
        exact e
      have t := same_upd nd' (o := .lst [])
      exact ⟨(s1.same sm).same t, ⟨dx, t _ _ od⟩, t _ _ ll, upd_same, ne_of_none ll nd', .nil _, .nil _, fun E h => (nomatch h), Nat.zero_le _⟩
    generalize L2.upd (L2.upd (L2.upd (L2.upd (L2.upd H1 dx (.own o)) o (.ins cW dx [])) l (.lst [])) o (.ins cW dx (flW l))) d (.lst []) = Hf at S0
    refine ⟨_, rfl, a, c, 3, rfl, S0.sl, by decide, by decide, fun bz Hg b0 b3 eg sg => ?_⟩
    have Sg := S0.take eg sg
    refine ⟨_, rfl, a, c, 81, rfl, Sg.sl, by decide, by decide, fun v0 Hh v00 v81 eh sh => ?_⟩
    have Sh := Sg.take eh sh
    obtain ⟨k, rfl, hk⟩ := nat_of v00 v81
    refine ⟨_, rfl, by omega, by omega, for_range (lo := 0) (n := k) (fun i σ H' => Mid cW (.ref l0) a c o l bz σ H') ⟨d, [], [], [], none, none, none, none, none, none, none, none, none, none, rfl, Sh⟩ ?_ ?_⟩
    · rintro i σ H' hi ⟨d, ws, ds, D, v5, v6, v7, v8, v9, v10, v11, v12, v13, v14, rfl, S⟩
      refine ⟨_, rfl, _, rfl, _, _, rfl, rfl, .inl ⟨by decide, by decide⟩, _, _, rfl, rfl, a, c, _, rfl, S.sl, by omega, by omega, fun kd H2 k0 kM e2 s2 => ?_⟩
      have S2 := S.take e2 s2
      refine ⟨_, rfl, a, c, 3, rfl, s2, by decide, by decide, fun x3 H3 x0 x3l e3 s3 => ?_⟩
      have S3 := S2.take e3 s3
      refine ⟨_, rfl, a, c, 50, rfl, s3, by decide, by decide, fun y3 H4 y0 y3l e4 s4 => ?_⟩
      have S4 := S3.take e4 s4
      refine ⟨_, rfl, a, c, rfl, s4, fun b B H5 hb hok nb s5 m5 => ?_⟩
      have S5 := S4.mv m5 s5
      refine ⟨szl, fun e ne => ?_⟩
      have S6 := S5.same (same_upd ne (o := .tup [.int x3, .int y3, .ref b]))
      have he : Let (L2.upd H5 e (.tup [.int x3, .int y3, .ref b])) e (x3, y3, B) := ⟨b, upd_same, same_upd ne _ _ hb⟩
      generalize L2.upd H5 e (.tup [.int x3, .int y3, .ref b]) = H6 at S6 he
      refine ⟨fun σ H => Mid cW (.ref l0) a c o l bz σ H, ?_, ?_⟩
      · have ln := len_of S6
        obtain ⟨dx6, ho6⟩ := S6.ob
        have okE : ∀ E ∈ D ++ [(x3, y3, B)], E.2.2.ok := fun E hE => by
          rcases List.mem_append.mp hE with h | h
          · exact S6.ok E h
          · rw [List.mem_singleton.mp h]; exact hok
        refine ⟨_, rfl, _, _, rfl, rfl, _, rfl, ?_⟩
        refine or_flat (fun h => ⟨_, rfl, d, _, rfl, .inl (SqL.of S6.hd), rfl, _, rfl, h⟩) ?_ (fun n3 nz => ?_)
        · refine ⟨_, rfl, o, dx6, _, rfl, ho6, rfl, _, rfl, o, dx6, l, _, _, rfl, ho6, S6.hl, by rw [ln.1]; exact S6.len, fun h60 => ?_, fun hlt => ?_⟩
          · have hdec : decide (((ds.map V.ref).length : Int) < 60) = false := decide_eq_false (by rw [ln.1] at h60; rw [ln.2]; omega)
            refine ⟨_, rfl, _, rfl, d, _, rfl, .inl (SqL.of S6.hd), _, _, rfl, rfl, _, rfl, rfl, _, rfl, ?_⟩
            rw [hdec, neq_str]
            refine ite2 (fun z => absurd rfl (of_decide_eq_true z)) (fun _ => ?_)
            refine ⟨_, rfl, d, _, rfl, .inl (SqL.of S6.hd), _, _, rfl, rfl, _, rfl, ?_⟩
            rw [hdec]
            exact iteF ⟨d, ws, ds, D, _, _, _, _, _, _, _, _, _, _, rfl, S6⟩
          · obtain ⟨p1, ⟨dx7, p2⟩, p3, p4⟩ := S6.putW (zs := ws.map V.ref ++ [V.ref e])
            have hdec : decide (((ds.map V.ref).length : Int) < 60) = true := decide_eq_true (by rw [ln.1] at hlt; rw [ln.2]; omega)
            refine ⟨_, rfl, _, rfl, d, _, rfl, .inl (SqL.of p3), _, _, rfl, rfl, _, rfl, rfl, _, rfl, ?_⟩
            rw [hdec, neq_str]
            refine ite2 (fun z => absurd rfl (of_decide_eq_true z)) (fun _ => ?_)
            refine ⟨_, rfl, d, _, rfl, .inl (SqL.of p3), _, _, rfl, rfl, _, rfl, ?_⟩
            rw [hdec]
            refine iteT ⟨_, rfl, .inl ⟨rfl, _, SqL.of p3⟩, _, rfl, d, _, _, rfl, rfl, p3, by rw [ln.2]; exact Nat.lt_of_le_of_lt S6.len (by decide), ?_⟩
            have B6 := S6.both (S6.w.snoc he) (S6.u.snoc he) okE (by rw [List.length_append]; rw [ln.1] at hlt; exact hlt)
            rw [List.map_append, List.map_append] at B6
            exact ⟨d, _, _, _, _, _, _, _, _, _, _, _, _, _, rfl, B6⟩
        · have hpos : 0 < D.length := by
            have : ¬ (V.int ((ds.map V.ref).length : Int) = V.int 0) := of_decide_eq_false nz
            rw [ln.2] at this
            exact Nat.pos_of_ne_zero fun z => this (by rw [z]; rfl)
          have hlen := S6.len
          refine ⟨_, rfl, _, rfl, d, _, rfl, .inl (SqL.of S6.hd), a, c, _, rfl, S6.sl, by rw [ln.2]; omega, by rw [ln.2]; omega, fun iv H7 i0 iL e7 s7 => ?_⟩
          rw [ln.2] at iL
          have S7 := S6.take e7 s7
          obtain ⟨dx7, ho7⟩ := S7.ob
          obtain ⟨j, rfl, hj⟩ := nat_of i0 iL
          have hjD : j < D.length := by omega
          have hjw : j < ws.length := by rw [S7.wl]; exact hjD
          have hju : j < ds.length := by rw [S7.dl]; exact hjD
          have gw : (ws.map V.ref)[j]? = some (.ref ws[j]) := by rw [List.getElem?_map, List.getElem?_eq_getElem hjw]; rfl
          have gu : (ds.map V.ref)[j]? = some (.ref ds[j]) := by rw [List.getElem?_map, List.getElem?_eq_getElem hju]; rfl
          have lw := S7.w.at_ j ws[j] D[j] (List.getElem?_eq_getElem hjw) (List.getElem?_eq_getElem hjD)
          have lu := S7.u.at_ j ds[j] D[j] (List.getElem?_eq_getElem hju) (List.getElem?_eq_getElem hjD)
          have okj : D[j].2.2.ok := S7.ok _ (List.getElem_mem hjD)
          have lnw : (ws.map V.ref).length ≤ 60 := by rw [ln.1]; exact hlen
          have four : kd = 0 ∨ kd = 1 ∨ kd = 2 ∨ kd = 3 := by omega
          -- what follows where a letter has gone
          have hel : (ds.map V.ref).length ≤ sizeLine := by rw [ln.2]; exact Nat.le_trans hlen (by decide)
          rcases four with rfl | rfl | rfl | rfl
          · obtain ⟨p1, ⟨dx8, p2⟩, p3, p4⟩ := S7.putW (zs := (ws.map V.ref).eraseIdx j)
            have sh := shaped_of (Ltr.lay okj) (by decide)
            refine ⟨_, rfl, rfl, _, rfl, ifT ⟨_, rfl, o, dx7, _, rfl, ho7, rfl, _, rfl, o, dx7, l, _, .ref ws[j], j, rfl, ho7, S7.hl, lnw, gw, _, rfl, _, rfl, d, _, _, .ref ds[j], rfl, rfl, SqL.of p3, atI_nat gu, _, _, (lw.keep p4).dp, (lu.keep p4).dp, sh, sh, _, rfl, ?_⟩⟩
            rw [SeqAt.eqv_refl _ (Ltr.lay okj).1]
            refine iteF ⟨_, rfl, rfl, _, rfl, ifF (by decide) (iteF ?_)⟩
            refine ⟨_, rfl, _, _, rfl, rfl, _, rfl, ite2 (fun _ => ?_) (fun z => absurd (by decide) z)⟩
            refine ⟨_, rfl, _, rfl, _, rfl, d, _, rfl, SqL.of p3, fun d1 m1 => ?_⟩
            have t1 := same_upd m1 (o := .lst (cutV (ds.map V.ref) none (some (j : Int))))
            refine ⟨_, rfl, _, rfl, _, _, rfl, rfl, _, rfl, d, _, rfl, SqL.of (t1 _ _ p3), fun d2 m2 => ?_⟩
            have t2 := same_upd m2 (o := .lst (cutV (ds.map V.ref) (some ((j : Int) + 1)) none))
            refine ⟨d1, d2, _, _, rfl, rfl, t2 _ _ upd_same, upd_same, ?_, fun d3 m3 => ?_⟩
            · rw [← List.length_append, cut_erase (by rw [ln.2]; exact hjD), List.length_eraseIdx]
              split <;> omega
            have t3 := same_upd m3 (o := .lst (cutV (ds.map V.ref) none (some (j : Int)) ++ cutV (ds.map V.ref) (some ((j : Int) + 1)) none))
            have S8 := S7.erased (d3 := d3) ((t1.trans t2).trans t3) ((t1.trans t2).free m3) (by rw [upd_same, cut_erase (by rw [ln.2]; exact hjD)])
            exact ⟨_, rfl, rfl, _, rfl, ifF (by decide) ⟨_, rfl, rfl, _, rfl, ifF (by decide) ⟨d3, _, _, _, _, _, _, _, _, _, _, _, _, _, rfl, S8⟩⟩⟩
          · obtain ⟨p1, ⟨dx8, p2⟩, p3, p4⟩ := S7.putW (zs := (ws.map V.ref).eraseIdx j)
            refine ⟨_, rfl, rfl, _, rfl, ifF (by decide) (iteF ⟨_, rfl, rfl, _, rfl, ifT ⟨_, rfl, o, dx7, _, rfl, ho7, rfl, _, rfl, o, dx7, l, _, j, rfl, ho7, S7.hl, lnw, by rw [ln.1]; exact hjD, rfl, _, rfl, iteF ?_⟩⟩)⟩
            refine ⟨_, rfl, _, _, rfl, rfl, _, rfl, ite2 (fun _ => ?_) (fun z => absurd (by decide) z)⟩
            refine ⟨_, rfl, _, rfl, _, rfl, d, _, rfl, SqL.of p3, fun d1 m1 => ?_⟩
            have t1 := same_upd m1 (o := .lst (cutV (ds.map V.ref) none (some (j : Int))))
            refine ⟨_, rfl, _, rfl, _, _, rfl, rfl, _, rfl, d, _, rfl, SqL.of (t1 _ _ p3), fun d2 m2 => ?_⟩
            have t2 := same_upd m2 (o := .lst (cutV (ds.map V.ref) (some ((j : Int) + 1)) none))
            refine ⟨d1, d2, _, _, rfl, rfl, t2 _ _ upd_same, upd_same, ?_, fun d3 m3 => ?_⟩
            · rw [← List.length_append, cut_erase (by rw [ln.2]; exact hjD), List.length_eraseIdx]
              split <;> omega
            have t3 := same_upd m3 (o := .lst (cutV (ds.map V.ref) none (some (j : Int)) ++ cutV (ds.map V.ref) (some ((j : Int) + 1)) none))
            have S8 := S7.erased (d3 := d3) ((t1.trans t2).trans t3) ((t1.trans t2).free m3) (by rw [upd_same, cut_erase (by rw [ln.2]; exact hjD)])
            exact ⟨_, rfl, rfl, _, rfl, ifF (by decide) ⟨_, rfl, rfl, _, rfl, ifF (by decide) ⟨d3, _, _, _, _, _, _, _, _, _, _, _, _, _, rfl, S8⟩⟩⟩
          · refine ⟨_, rfl, rfl, _, rfl, ifF (by decide) (iteF ⟨_, rfl, rfl, _, rfl, ifF (by decide) (iteF ?_)⟩)⟩
            refine ⟨_, rfl, _, _, rfl, rfl, _, rfl, ite2 (fun z => absurd (of_decide_eq_true z) (by decide)) (fun _ => ?_)⟩
            refine ⟨_, rfl, rfl, _, rfl, ifT ?_⟩
            refine ⟨_, rfl, o, dx7, _, rfl, ho7, rfl, _, rfl, o, dx7, l, _, _, j, rfl, ho7, S7.hl, lnw, gw, fun h60 => ?_, fun hlt => ?_⟩
            · have hdec : decide (((ds.map V.ref).length : Int) < 60) = false := decide_eq_false (by rw [ln.1] at h60; rw [ln.2]; omega)
              refine ⟨_, rfl, _, rfl, d, _, rfl, .inl (SqL.of S7.hd), _, _, rfl, rfl, _, rfl, rfl, _, rfl, ?_⟩
              rw [hdec, neq_str]
              refine ite2 (fun z => absurd rfl (of_decide_eq_true z)) (fun _ => ?_)
              refine ⟨_, rfl, d, _, rfl, .inl (SqL.of S7.hd), _, _, rfl, rfl, _, rfl, ?_⟩
              rw [hdec]
              exact iteF ⟨_, rfl, rfl, _, rfl, ifF (by decide) ⟨d, ws, ds, D, _, _, _, _, _, _, _, _, _, _, rfl, S7⟩⟩
            · obtain ⟨p1, ⟨dx8, p2⟩, p3, p4⟩ := S7.putW (zs := ws.map V.ref ++ [V.ref ws[j]])
              have hdec : decide (((ds.map V.ref).length : Int) < 60) = true := decide_eq_true (by rw [ln.1] at hlt; rw [ln.2]; omega)
              refine ⟨_, rfl, _, rfl, d, _, rfl, .inl (SqL.of p3), _, _, rfl, rfl, _, rfl, rfl, _, rfl, ?_⟩
              rw [hdec, neq_str]
              refine ite2 (fun z => absurd rfl (of_decide_eq_true z)) (fun _ => ?_)
              refine ⟨_, rfl, d, _, rfl, .inl (SqL.of p3), _, _, rfl, rfl, _, rfl, ?_⟩
              rw [hdec]
              refine iteT ⟨_, rfl, .inl ⟨rfl, _, SqL.of p3⟩, _, rfl, _, rfl, d, _, _, .ref ds[j], rfl, rfl, SqL.of p3, atI_nat gu, d, _, _, rfl, rfl, p3, by rw [ln.2]; exact Nat.lt_of_le_of_lt hlen (by decide), ?_⟩
              have okE2 : ∀ E ∈ D ++ [D[j]], E.2.2.ok := fun E hE => by
                rcases List.mem_append.mp hE with h | h
                · exact S7.ok E h
                · rw [List.mem_singleton.mp h]; exact okj
              have B6 := S7.both (S7.w.snoc lw) (S7.u.snoc lu) okE2 (by rw [List.length_append]; rw [ln.1] at hlt; exact hlt)
              rw [List.map_append, List.map_append] at B6
              exact ⟨_, rfl, rfl, _, rfl, ifF (by decide) ⟨d, _, _, _, _, _, _, _, _, _, _, _, _, _, rfl, B6⟩⟩
          · refine ⟨_, rfl, rfl, _, rfl, ifF (by decide) (iteF ⟨_, rfl, rfl, _, rfl, ifF (by decide) (iteF ?_)⟩)⟩
            refine ⟨_, rfl, _, _, rfl, rfl, _, rfl, ite2 (fun z => absurd (of_decide_eq_true z) (by decide)) (fun _ => ?_)⟩
            refine ⟨_, rfl, rfl, _, rfl, ifF (by decide) ⟨_, rfl, rfl, _, rfl, ifT ?_⟩⟩
            refine ⟨_, rfl, a, c, 9, rfl, s7, by decide, by decide, fun pv_ H8 q0 q9 e8 s8 => ?_⟩
            have S8 := S7.take e8 s8
            refine ⟨_, rfl, a, c, 3, rfl, s8, by decide, by decide, fun cv H9 r0 r3 e9 s9 => ?_⟩
            have S9 := S8.take e9 s9
            obtain ⟨pj, rfl, hpj⟩ := nat_of q0 q9
            obtain ⟨cj, rfl, hcj⟩ := nat_of r0 r3
            have hcl : cj < abt.length := by show cj < 3; omega
            have hc' : abt[cj] < 0x110000 := (by decide : ∀ z ∈ abt, z < 0x110000) _ (List.getElem_mem hcl)
            refine ⟨_, _, abt[cj], rfl, rfl, by decide +kernel, by rw [abt_eq]; exact atI_nat (List.getElem?_eq_getElem hcl), ?_⟩
            generalize abt[cj] = cc at hc'
            obtain ⟨bu, hu1, hu2⟩ := S9.u.at_ j ds[j] D[j] (List.getElem?_eq_getElem hju) (List.getElem?_eq_getElem hjD)
            obtain ⟨bw, hw1, hw2⟩ := S9.w.at_ j ws[j] D[j] (List.getElem?_eq_getElem hjw) (List.getElem?_eq_getElem hjD)
            generalize hDj : D[j] = E at hu1 hu2 hw1 hw2 okj
            obtain ⟨xx, yy, B2⟩ := E
            refine ⟨_, rfl, _, rfl, d, _, _, .ref ds[j], rfl, rfl, SqL.of S9.hd, atI_nat gu, ds[j], _, rfl, SqT.of hu1, rfl, _, _, rfl, _, _, rfl, _, _, rfl, rfl, ?_⟩
            refine ⟨_, rfl, _, rfl, _, rfl, bu, B2, pj, cc, rfl, hu2, okj, by omega, fun b' H10 s10 hb' fb => ?_⟩
            have S10 := S9.same s10
            obtain ⟨dx10, ho10⟩ := S10.ob
            refine ⟨_, rfl, o, dx10, _, rfl, ho10, rfl, _, rfl, _, rfl, _, rfl, o, dx10, l, ws[j], bw, _, j, pj, cc, xx, yy, B2, rfl, ho10, S10.hl, lnw, gw, s10 _ _ hw1, s10 _ _ hw2, okj, by omega, hc', fun e1 b1 H11 s11 ne11 he1 hb1 => ?_⟩
            have S11 := S10.same s11
            obtain ⟨p1, ⟨dx12, p2⟩, p3, p4⟩ := S11.putW (zs := (ws.map V.ref).set j (.ref e1))
            have sh1 := shaped_of (Bd.lay (Bd.spl_ok (p := pj) okj hc')) (by decide)
            have sh2 := shaped_of (Bd.lay okj) (by decide)
            refine ⟨_, rfl, _, rfl, _, rfl, _, _, Bd.dp (p4 _ _ (s11 _ _ hb')), Bd.dp (p4 _ _ (s11 _ _ (s10 _ _ hu2))), sh1, sh2, _, rfl, rfl, _, rfl, ?_⟩
            rw [neq_str]
            refine ite2 (fun z => absurd rfl (of_decide_eq_true z)) (fun _ => ?_)
            refine ⟨_, rfl, _, rfl, _, rfl, szl, fun e2 n2 => ?_⟩
            have t2 := same_upd n2 (o := .tup [.int xx, .int yy, .ref b'])
            refine ⟨_, rfl, _, rfl, d, _, _, j, rfl, rfl, t2 _ _ p3, by unfold ixN; rw [if_pos (by omega), if_pos (by rw [ln.2]; omega)]; rfl, ?_⟩
            have S13 := S11.spoilt (e1 := e1) (e2 := e2) (j := j) (E := (xx, yy, B2.spl pj cc)) t2 ⟨b1, t2 _ _ (p4 _ _ he1), t2 _ _ (p4 _ _ hb1)⟩ ⟨b', upd_same, t2 _ _ (p4 _ _ (s11 _ _ hb'))⟩ (Bd.spl_ok okj hc')
            exact ⟨d, _, _, _, _, _, _, _, _, _, _, _, _, _, rfl, S13⟩
      · rintro σ H' ⟨d, ws, ds, D, v5, v6, v7, v8, v9, v10, v11, v12, v13, v14, rfl, S⟩
        obtain ⟨dx', ho'⟩ := S.ob
        have sh := shaped_of (lay_due S.ok) (by decide)
        refine ⟨_, rfl, o, cW, dx', _, _, rfl, ho', T.clW, T.nWl, rfl, _, rfl, _, _, S.w.dp S.hl, S.u.dp S.hd, sh, sh, _, rfl, ?_⟩
        rw [SeqAt.eqv_refl _ (lay_due S.ok).1]
        refine iteF ⟨rfl, _, rfl, iteF ?_⟩
        exact ⟨d, ws, ds, D, v5, v6, v7, v8, v9, v10, v11, v12, v13, v14, rfl, S⟩
    · rintro σ H' ⟨d, ws, ds, D, v5, v6, v7, v8, v9, v10, v11, v12, v13, v14, rfl, S⟩
      exact hq _
end
end LW
namespace LW
open PySem PySem.Spec PyProof.Rows L2 GxR
theorem all_mk {l : PySem.W.OpenLaw} {w : World} {K : PySem.W.Frag} {h : Heap} {mg : Str → Option Value} {fa : Addr}
    {f_ls : Addr} {oc_ls kV_ls dc_ls pm_ls ct_ls cd_ls : Value} {od_ls an_ls : Option Addr} {sl_ls : Array (Option Value)}
    {f_lt : Addr} {oc_lt kV_lt dc_lt pm_lt ct_lt cd_lt : Value} {od_lt an_lt : Option Addr} {sl_lt : Array (Option Value)}
    {f_lx : Addr} {oc_lx kV_lx dc_lx pm_lx ct_lx cd_lx : Value} {od_lx an_lx : Option Addr} {sl_lx : Array (Option Value)}
    {f_lb : Addr} {oc_lb kV_lb dc_lb pm_lb ct_lb cd_lb : Value} {od_lb an_lb : Option Addr} {sl_lb : Array (Option Value)}
    {f_lp : Addr} {oc_lp kV_lp dc_lp pm_lp ct_lp cd_lp : Value} {od_lp an_lp : Option Addr} {sl_lp : Array (Option Value)}
    {f_sb : Addr} {oc_sb kV_sb dc_sb pm_sb ct_sb cd_sb : Value} {od_sb an_sb : Option Addr} {sl_sb : Array (Option Value)}
    {f_lw : Addr} {oc_lw kV_lw dc_lw pm_lw ct_lw cd_lw : Value} {od_lw an_lw : Option Addr} {sl_lw : Array (Option Value)}
    {f_wi : Addr} {oc_wi kV_wi dc_wi pm_wi cd_wi ct_wi : Value} {od_wi an_wi : Option Addr} {sl_wi : Array (Option Value)}
    {f_ws : Addr} {oc_ws kV_ws dc_ws pm_ws cd_ws ct_ws : Value} {od_ws an_ws : Option Addr} {sl_ws : Array (Option Value)}
    {f_wd : Addr} {oc_wd kV_wd dc_wd pm_wd cd_wd ct_wd : Value} {od_wd an_wd : Option Addr} {sl_wd : Array (Option Value)}
    {f_wl : Addr} {oc_wl kV_wl dc_wl pm_wl cd_wl ct_wl : Value} {od_wl an_wl : Option Addr} {sl_wl : Array (Option Value)}
    {f_wb : Addr} {oc_wb kV_wb dc_wb pm_wb cd_wb ct_wb : Value} {od_wb an_wb : Option Addr} {sl_wb : Array (Option Value)}
    {f_wp : Addr} {oc_wp kV_wp dc_wp pm_wp cd_wp ct_wp : Value} {od_wp an_wp : Option Addr} {sl_wp : Array (Option Value)}
    {cW : Addr}
    {t0 : Tok}
    {td : Addr}
    {et : Array DictEntry} {nt : Nat}
    {q0t : Tok}
    {q1t : Tok}
    {q2t : Tok}
    (X : K.In h) (G : h.Ns mainGlobals mg) (hfa : mg "law" = some (.ref fa))
    (a_ls : PySem.W.nsIn K mainGlobals "_law_state" = some (some (.ref f_ls)))
    (l_ls : K.lookup f_ls = some ⟨oc_ls, od_ls, .func (PySem.W.fnOf "_law_state" "_law_state" (defArgs s_law_state) (defBody s_law_state) (defScope s_law_state) .none kV_ls dc_ls pm_ls an_ls cd_ls ct_ls), sl_ls⟩)
    (cc_ls : PySem.W.codeIn K cd_ls "_law_state" = true)
    (k_ls : PySem.W.keepIn K (.ref f_ls) = true)
    (a_lt : PySem.W.nsIn K mainGlobals "_law_take" = some (some (.ref f_lt)))
    (l_lt : K.lookup f_lt = some ⟨oc_lt, od_lt, .func (PySem.W.fnOf "_law_take" "_law_take" (defArgs s_law_take) (defBody s_law_take) (defScope s_law_take) .none kV_lt dc_lt pm_lt an_lt cd_lt ct_lt), sl_lt⟩)
    (cc_lt : PySem.W.codeIn K cd_lt "_law_take" = true)
    (k_lt : PySem.W.keepIn K (.ref f_lt) = true)
    (a_lx : PySem.W.nsIn K mainGlobals "_law_text" = some (some (.ref f_lx)))
    (l_lx : K.lookup f_lx = some ⟨oc_lx, od_lx, .func (PySem.W.fnOf "_law_text" "_law_text" (defArgs s_law_text) (defBody s_law_text) (defScope s_law_text) .none kV_lx dc_lx pm_lx an_lx cd_lx ct_lx), sl_lx⟩)
    (cc_lx : PySem.W.codeIn K cd_lx "_law_text" = true)
    (k_lx : PySem.W.keepIn K (.ref f_lx) = true)
    (a_lb : PySem.W.nsIn K mainGlobals "_law_body" = some (some (.ref f_lb)))
    (l_lb : K.lookup f_lb = some ⟨oc_lb, od_lb, .func (PySem.W.fnOf "_law_body" "_law_body" (defArgs s_law_body) (defBody s_law_body) (defScope s_law_body) .none kV_lb dc_lb pm_lb an_lb cd_lb ct_lb), sl_lb⟩)
    (cc_lb : PySem.W.codeIn K cd_lb "_law_body" = true)
    (k_lb : PySem.W.keepIn K (.ref f_lb) = true)
    (a_lp : PySem.W.nsIn K mainGlobals "_law_spoilt" = some (some (.ref f_lp)))
    (l_lp : K.lookup f_lp = some ⟨oc_lp, od_lp, .func (PySem.W.fnOf "_law_spoilt" "_law_spoilt" (defArgs s_law_spoilt) (defBody s_law_spoilt) (defScope s_law_spoilt) .none kV_lp dc_lp pm_lp an_lp cd_lp ct_lp), sl_lp⟩)
    (cc_lp : PySem.W.codeIn K cd_lp "_law_spoilt" = true)
    (k_lp : PySem.W.keepIn K (.ref f_lp) = true)
    (a_sb : PySem.W.nsIn K mainGlobals "_spoilt_body" = some (some (.ref f_sb)))
    (l_sb : K.lookup f_sb = some ⟨oc_sb, od_sb, .func (PySem.W.fnOf "_spoilt_body" "_spoilt_body" (defArgs s_spoilt_body) (defBody s_spoilt_body) (defScope s_spoilt_body) .none kV_sb dc_sb pm_sb an_sb cd_sb ct_sb), sl_sb⟩)
    (cc_sb : PySem.W.codeIn K cd_sb "_spoilt_body" = true)
    (k_sb : PySem.W.keepIn K (.ref f_sb) = true)
    (a_lw : PySem.W.nsIn K mainGlobals "law" = some (some (.ref f_lw)))
    (l_lw : K.lookup f_lw = some ⟨oc_lw, od_lw, .func (PySem.W.fnOf "law" "law" (defArgs s_law) (defBody s_law) (defScope s_law) .none kV_lw dc_lw pm_lw an_lw cd_lw ct_lw), sl_lw⟩)
    (cc_lw : PySem.W.codeIn K cd_lw "law" = true)
    (k_lw : PySem.W.keepIn K (.ref f_lw) = true)
    (g_cW : PySem.W.nsIn K mainGlobals "Wire" = some (some (.ref cW)))
    (pg_cW : PySem.W.plainGet K cW Str.empty = true)
    (hd_cW : PySem.W.hasDictIn K cW = true)
    (po_cW : PySem.W.plainOver K cW = true)
    (sa_cW : PySem.W.findIn K (.ref cW) "__setattr__" = some (some (.builtin "object.__setattr__")))
    (mk_cW : PySem.W.makesIn K cW = true)
    (kc_cW : PySem.W.keepIn K (.ref cW) = true)
    (z0 : PySem.W.nsIn K mainGlobals "abs" = some none)
    (z1 : PySem.W.nsIn K mainGlobals "int" = some none)
    (z2 : PySem.W.nsIn K mainGlobals "len" = some none)
    (z3 : PySem.W.nsIn K mainGlobals "list" = some none)
    (z4 : PySem.W.nsIn K mainGlobals "range" = some none)
    (z5 : PySem.W.nsIn K mainGlobals "repr" = some none)
    (n0 : PySem.W.findIn K (.ref cW) "letters" = some none)
    (v0 : PySem.W.nsIn K mainGlobals "MOST_LETTERS" = some (some (.int 60 t0)))
    (aT : PySem.W.nsIn K mainGlobals "_TEXT_AT" = some (some (.ref td)))
    (lT : K.lookup td = some ⟨.type "dict", none, .dict et nt, #[]⟩)
    (sT : (td == sysModules) = false)
    (q0 : PySem.W.nsIn K td "part" = some (some (.int 3 q0t)))
    (q1 : PySem.W.nsIn K td "put" = some (some (.int 3 q1t)))
    (q2 : PySem.W.nsIn K td "piece" = some (some (.int 4 q2t)))
    (o0 : PySem.W.nsIn K td "open" = some none)
    (o1 : PySem.W.nsIn K td "kept" = some none)
    (o2 : PySem.W.nsIn K td "name" = some none)
    (o3 : PySem.W.nsIn K td "look" = some none)
    (o4 : PySem.W.nsIn K td "wrong" = some none)
    (o5 : PySem.W.nsIn K td "have" = some none)
    (a_wi : PySem.W.findIn K (.ref cW) "__init__" = some (some (.ref f_wi)))
    (i_wi : PySem.W.isFn K (.ref f_wi) = true)
    (l_wi : K.lookup f_wi = some ⟨oc_wi, od_wi, .func (PySem.W.fnOf "__init__" "Wire.__init__" (defArgs s_Wire___init) (defBody s_Wire___init) (defScope s_Wire___init) .none kV_wi dc_wi pm_wi an_wi cd_wi ct_wi), sl_wi⟩)
    (cc_wi : PySem.W.codeIn K cd_wi "Wire.__init__" = true)
    (k_wi : PySem.W.keepIn K (.ref f_wi) = true)
    (a_ws : PySem.W.findIn K (.ref cW) "send" = some (some (.ref f_ws)))
    (i_ws : PySem.W.isFn K (.ref f_ws) = true)
    (l_ws : K.lookup f_ws = some ⟨oc_ws, od_ws, .func (PySem.W.fnOf "send" "Wire.send" (defArgs s_Wire_send) (defBody s_Wire_send) (defScope s_Wire_send) .none kV_ws dc_ws pm_ws an_ws cd_ws ct_ws), sl_ws⟩)
    (cc_ws : PySem.W.codeIn K cd_ws "Wire.send" = true)
    (k_ws : PySem.W.keepIn K (.ref f_ws) = true)
    (a_wd : PySem.W.findIn K (.ref cW) "deliver" = some (some (.ref f_wd)))
    (i_wd : PySem.W.isFn K (.ref f_wd) = true)
    (l_wd : K.lookup f_wd = some ⟨oc_wd, od_wd, .func (PySem.W.fnOf "deliver" "Wire.deliver" (defArgs s_Wire_deliver) (defBody s_Wire_deliver) (defScope s_Wire_deliver) .none kV_wd dc_wd pm_wd an_wd cd_wd ct_wd), sl_wd⟩)
    (cc_wd : PySem.W.codeIn K cd_wd "Wire.deliver" = true)
    (k_wd : PySem.W.keepIn K (.ref f_wd) = true)
    (a_wl : PySem.W.findIn K (.ref cW) "lose" = some (some (.ref f_wl)))
    (i_wl : PySem.W.isFn K (.ref f_wl) = true)
    (l_wl : K.lookup f_wl = some ⟨oc_wl, od_wl, .func (PySem.W.fnOf "lose" "Wire.lose" (defArgs s_Wire_lose) (defBody s_Wire_lose) (defScope s_Wire_lose) .none kV_wl dc_wl pm_wl an_wl cd_wl ct_wl), sl_wl⟩)
    (cc_wl : PySem.W.codeIn K cd_wl "Wire.lose" = true)
    (k_wl : PySem.W.keepIn K (.ref f_wl) = true)
    (a_wb : PySem.W.findIn K (.ref cW) "double" = some (some (.ref f_wb)))
    (i_wb : PySem.W.isFn K (.ref f_wb) = true)
    (l_wb : K.lookup f_wb = some ⟨oc_wb, od_wb, .func (PySem.W.fnOf "double" "Wire.double" (defArgs s_Wire_double) (defBody s_Wire_double) (defScope s_Wire_double) .none kV_wb dc_wb pm_wb an_wb cd_wb ct_wb), sl_wb⟩)
    (cc_wb : PySem.W.codeIn K cd_wb "Wire.double" = true)
    (k_wb : PySem.W.keepIn K (.ref f_wb) = true)
    (a_wp : PySem.W.findIn K (.ref cW) "spoil" = some (some (.ref f_wp)))
    (i_wp : PySem.W.isFn K (.ref f_wp) = true)
    (l_wp : K.lookup f_wp = some ⟨oc_wp, od_wp, .func (PySem.W.fnOf "spoil" "Wire.spoil" (defArgs s_Wire_spoil) (defBody s_Wire_spoil) (defScope s_Wire_spoil) .none kV_wp dc_wp pm_wp an_wp cd_wp ct_wp), sl_wp⟩)
    (cc_wp : PySem.W.codeIn K cd_wp "Wire.spoil" = true)
    (k_wp : PySem.W.keepIn K (.ref f_wp) = true)
    (kT : PySem.W.KeysLit w.params et.toList) :
    LamX.LawAtS l w K CX0 4 63 "script" mg fa h := by
  have e := hfa.symm.trans (PySem.W.mg_of X G a_lw)
  cases e
  have tat : TatAt K w mg := ⟨td, PySem.W.mg_of X G aT, ⟨_, _, lT, kT, sT⟩, ⟨_, _, _, lT, kT, q0, ⟨_, rfl⟩⟩, ⟨_, _, _, lT, kT, q1, ⟨_, rfl⟩⟩, ⟨_, _, _, lT, kT, q2, ⟨_, rfl⟩⟩, fun z hz => by
    rcases List.mem_cons.mp hz with rfl | hz
    · exact o0
    rcases List.mem_cons.mp hz with rfl | hz
    · exact o1
    rcases List.mem_cons.mp hz with rfl | hz
    · exact o2
    rcases List.mem_cons.mp hz with rfl | hz
    · exact o3
    rcases List.mem_cons.mp hz with rfl | hz
    · exact o4
    rw [List.mem_singleton.mp hz]; exact o5⟩
  have T : Tx K w mg cW := ⟨PySem.W.mg_none_of X G z0, PySem.W.mg_none_of X G z1, PySem.W.mg_none_of X G z2, PySem.W.mg_none_of X G z3, PySem.W.mg_none_of X G z4, PySem.W.mg_none_of X G z5, ⟨_, PySem.W.mg_of X G v0⟩, tat, PySem.W.mg_of X G g_cW, ⟨pg_cW, hd_cW, po_cW, sa_cW⟩, n0⟩
  refine ⟨PySem.W.fnOf "law" "law" (defArgs s_law) (defBody s_law) (defScope s_law) .none kV_lw dc_lw pm_lw an_lw cd_lw ct_lw, [], sp_law K, (fun p hp => nomatch hp), (fun p hp => nomatch hp), (fun p hp => nomatch hp), ?_, ?_, ?_⟩
  · exact fun s v => .of_eq rfl
  · intro H a ns hl _ hH hS
    exact ⟨a, ns, rfl, hS, hl, fun _ => rfl⟩
  · intro base _ _ hT
    have CT : Cal l.prog w K mg base CX0 1 "_law_take" P_law_take spTake := ⟨_, _, ok_take (fun_mk (st := s_law_take) l_lt cc_lt k_lt) T.z_len T.z_int, PySem.W.mg_of X G a_lt, k_lt, ((fun_mk (st := s_law_take) l_lt cc_lt k_lt).binds fun _ _ _ _ _ _ us hl => match us, hl with | [_, _], _ => rfl)⟩
    have CX : Cal l.prog w K mg base CX0 2 "_law_text" P_law_text spText := ⟨_, _, ok_law_text (fun_mk (st := s_law_text) l_lx cc_lx k_lx) T CT, PySem.W.mg_of X G a_lx, k_lx, ((fun_mk (st := s_law_text) l_lx cc_lx k_lx).binds fun _ _ _ _ _ _ us hl => match us, hl with | [_, _], _ => rfl)⟩
    have CS : Cal l.prog w K mg base CX0 1 "_law_state" P_law_state (spState K) := ⟨_, _, ok_state (fun_mk (st := s_law_state) l_ls cc_ls k_ls) T, PySem.W.mg_of X G a_ls, k_ls, ((fun_mk (st := s_law_state) l_ls cc_ls k_ls).binds fun _ _ _ _ _ _ us hl => match us, hl with | [_], _ => rfl)⟩
    have CB : Cal l.prog w K mg base CX0 3 "_law_body" P_law_body spBody := ⟨_, _, ok_law_body (fun_mk (st := s_law_body) l_lb cc_lb k_lb) T CT CX, PySem.W.mg_of X G a_lb, k_lb, ((fun_mk (st := s_law_body) l_lb cc_lb k_lb).binds fun _ _ _ _ _ _ us hl => match us, hl with | [_], _ => rfl)⟩
    have CP : Cal l.prog w K mg base CX0 1 "_law_spoilt" P_law_spoilt spSpl := ⟨_, _, ok_law_spoilt (fun_mk (st := s_law_spoilt) l_lp cc_lp k_lp) T, PySem.W.mg_of X G a_lp, k_lp, ((fun_mk (st := s_law_spoilt) l_lp cc_lp k_lp).binds fun _ _ _ _ _ _ us hl => match us, hl with | [_, _, _], _ => rfl)⟩
    have CQ : Cal l.prog w K mg base CX0 1 "_spoilt_body" P_spoilt_body spSpl := ⟨_, _, ok_spoilt_body (fun_mk (st := s_spoilt_body) l_sb cc_sb k_sb) T, PySem.W.mg_of X G a_sb, k_sb, ((fun_mk (st := s_spoilt_body) l_sb cc_sb k_sb).binds fun _ _ _ _ _ _ us hl => match us, hl with | [_, _, _], _ => rfl)⟩
    have M_s : CalM l.prog w K mg base CX0 1 cW "send" P_Wire_send (sp_Wire_send cW) := ⟨_, _, ok_Wire_send (fun_mk (st := s_Wire_send) l_ws cc_ws k_ws) T, T.clW, ⟨a_ws, i_ws, k_ws⟩, ((fun_mk (st := s_Wire_send) l_ws cc_ws k_ws).binds fun _ _ _ _ _ _ us hl => match us, hl with | [_, _], _ => rfl)⟩
    have M_d : CalM l.prog w K mg base CX0 1 cW "deliver" P_Wire_deliver (sp_Wire_deliver cW) := ⟨_, _, ok_Wire_deliver (fun_mk (st := s_Wire_deliver) l_wd cc_wd k_wd) T, T.clW, ⟨a_wd, i_wd, k_wd⟩, ((fun_mk (st := s_Wire_deliver) l_wd cc_wd k_wd).binds fun _ _ _ _ _ _ us hl => match us, hl with | [_, _], _ => rfl)⟩
    have M_l : CalM l.prog w K mg base CX0 1 cW "lose" P_Wire_lose (sp_Wire_lose cW) := ⟨_, _, ok_Wire_lose (fun_mk (st := s_Wire_lose) l_wl cc_wl k_wl) T, T.clW, ⟨a_wl, i_wl, k_wl⟩, ((fun_mk (st := s_Wire_lose) l_wl cc_wl k_wl).binds fun _ _ _ _ _ _ us hl => match us, hl with | [_, _], _ => rfl)⟩
    have M_b : CalM l.prog w K mg base CX0 2 cW "double" P_Wire_double (sp_Wire_double cW) := ⟨_, _, ok_Wire_double (fun_mk (st := s_Wire_double) l_wb cc_wb k_wb) T M_s, T.clW, ⟨a_wb, i_wb, k_wb⟩, ((fun_mk (st := s_Wire_double) l_wb cc_wb k_wb).binds fun _ _ _ _ _ _ us hl => match us, hl with | [_, _], _ => rfl)⟩
    have M_p : CalM l.prog w K mg base CX0 2 cW "spoil" P_Wire_spoil (sp_Wire_spoil cW) := ⟨_, _, ok_Wire_spoil (fun_mk (st := s_Wire_spoil) l_wp cc_wp k_wp) T CQ, T.clW, ⟨a_wp, i_wp, k_wp⟩, ((fun_mk (st := s_Wire_spoil) l_wp cc_wp k_wp).binds fun _ _ _ _ _ _ us hl => match us, hl with | [_, _, _, _], _ => rfl)⟩
    have K_w : CalK l.prog w K mg base CX0 1 "Wire" cW P_Wire___init (sp_Wire___init cW) := ⟨_, _, ok_Wire___init (fun_mk (st := s_Wire___init) l_wi cc_wi k_wi) T, ⟨mk_cW, a_wi, i_wi, kc_cW⟩, T.gW, ((fun_mk (st := s_Wire___init) l_wi cc_wi k_wi).binds fun _ _ _ _ _ _ us hl => match us, hl with | [_], _ => rfl)⟩
    exact ok_law (fun_mk (st := s_law) l_lw cc_lw k_lw) T K_w M_d M_b M_l M_s M_p CB CP CS CT
end LW
open PySem PySem.W PyProof.Rows
set_option maxHeartbeats 0 in
theorem PySem.Challenge.cw_layerwharf_k20_wire_holds : PySem.Challenge.rw_layerwharf_k20_wire.Holds := by
  w_on; o_law; k_head; (case hw => w_witness2)
  k_fill
  refine LW.walk_gnd (l := PySem.Challenge.rw_layerwharf_k20_wire) (n := 63) (k := 4) (x := "script") (CX := fun _ => L2.CX0) rfl (by decide) rfl ⟨rfl, by decide, by decide⟩ (fun w h Y => PySem.W.kIn_of Y) ?F (fun _ _ _ _ _ h => h)
  case F =>
    intro w s0 mg mb fa h G Y KX hmg
    refine' LW.all_mk KX G.T.g hmg ?a_ls ?l_ls ?cc_ls ?k_ls ?a_lt ?l_lt ?cc_lt ?k_lt ?a_lx ?l_lx ?cc_lx ?k_lx ?a_lb ?l_lb ?cc_lb ?k_lb ?a_lp ?l_lp ?cc_lp ?k_lp ?a_sb ?l_sb ?cc_sb ?k_sb ?a_lw ?l_lw ?cc_lw ?k_lw ?g_cW ?pg_cW ?hd_cW ?po_cW ?sa_cW ?mk_cW ?kc_cW ?z0 ?z1 ?z2 ?z3 ?z4 ?z5 ?n0 ?v0 ?aT ?lT ?sT ?q0 ?q1 ?q2 ?o0 ?o1 ?o2 ?o3 ?o4 ?o5 ?a_wi ?i_wi ?l_wi ?cc_wi ?k_wi ?a_ws ?i_ws ?l_ws ?cc_ws ?k_ws ?a_wd ?i_wd ?l_wd ?cc_wd ?k_wd ?a_wl ?i_wl ?l_wl ?cc_wl ?k_wl ?a_wb ?i_wb ?l_wb ?cc_wb ?k_wb ?a_wp ?i_wp ?l_wp ?cc_wp ?k_wp ?kT
    (case a_ls => k_is)
    (case l_ls => k_is)
    (case cc_ls => k_is)
    (case k_ls => k_is)
    (case a_lt => k_is)
    (case l_lt => k_is)
    (case cc_lt => k_is)
    (case k_lt => k_is)
    (case a_lx => k_is)
    (case l_lx => k_is)
    (case cc_lx => k_is)
    (case k_lx => k_is)
    (case a_lb => k_is)
    (case l_lb => k_is)
    (case cc_lb => k_is)
    (case k_lb => k_is)
    (case a_lp => k_is)
    (case l_lp => k_is)
    (case cc_lp => k_is)
    (case k_lp => k_is)
    (case a_sb => k_is)
    (case l_sb => k_is)
    (case cc_sb => k_is)
    (case k_sb => k_is)
    (case a_lw => k_is)
    (case l_lw => k_is)
    (case cc_lw => k_is)
    (case k_lw => k_is)
    (case g_cW => first | k_is | rfl)
    (case pg_cW => first | k_is | rfl)
    (case hd_cW => first | k_is | rfl)
    (case po_cW => first | k_is | rfl)
    (case sa_cW => first | k_is | rfl)
    (case mk_cW => first | k_is | rfl)
    (case kc_cW => first | k_is | rfl)
    (case z0 => first | k_is | rfl)
    (case z1 => first | k_is | rfl)
    (case z2 => first | k_is | rfl)
    (case z3 => first | k_is | rfl)
    (case z4 => first | k_is | rfl)
    (case z5 => first | k_is | rfl)
    (case n0 => first | k_is | rfl)
    (case v0 => first | k_is | rfl)
    (case aT => first | k_is | rfl)
    (case lT => first | k_is | rfl)
    (case sT => first | k_is | rfl)
    (case q0 => first | k_is | rfl)
    (case q1 => first | k_is | rfl)
    (case q2 => first | k_is | rfl)
    (case o0 => first | k_is | rfl)
    (case o1 => first | k_is | rfl)
    (case o2 => first | k_is | rfl)
    (case o3 => first | k_is | rfl)
    (case o4 => first | k_is | rfl)
    (case o5 => first | k_is | rfl)
    (case a_wi => k_is)
    (case i_wi => k_is)
    (case l_wi => k_is)
    (case cc_wi => k_is)
    (case k_wi => k_is)
    (case a_ws => k_is)
    (case i_ws => k_is)
    (case l_ws => k_is)
    (case cc_ws => k_is)
    (case k_ws => k_is)
    (case a_wd => k_is)
    (case i_wd => k_is)
    (case l_wd => k_is)
    (case cc_wd => k_is)
    (case k_wd => k_is)
    (case a_wl => k_is)
    (case i_wl => k_is)
    (case l_wl => k_is)
    (case cc_wl => k_is)
    (case k_wl => k_is)
    (case a_wb => k_is)
    (case i_wb => k_is)
    (case l_wb => k_is)
    (case cc_wb => k_is)
    (case k_wb => k_is)
    (case a_wp => k_is)
    (case i_wp => k_is)
    (case l_wp => k_is)
    (case cc_wp => k_is)
    (case k_wp => k_is)
    case kT => k_keys
