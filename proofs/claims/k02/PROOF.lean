import PyProof.Rows.All
import Wide.All
import OpenK.AllK
import Wide.FinOn
import HandS.ForMost
import HandS.AnyAll
import HandS.FStr
import HandS.Walk
import HandS.EndTab
import HandS.EndOwn
import HandS.Codes
import HandS.Strs
import HandS.IsInst
import HandS.Style
import HandS.Replace
import KE.KExcSuper
import KE.KSuper
import HandS.ExcInit
import KE.GoesEnumKw
import KE.GoesMore
import HandS.ExcIs
import HandS.ExcField
import HandS.ExcOwn
import HandS.TryOnly
import HandS.Star
import HandS.ListItems
import HandS.ForDict
import HandS.Deep
import HandS.DeepEq
import KE.KExcIs
import HandS.Text
import HandS.WordsExc
import PyProof.P3Eq
import PySem.Challenge.RW_layerwharf_k02_texts_of_images
set_option Elab.async false
set_option linter.all false
set_option maxRecDepth 100000
set_option maxHeartbeats 4000000
namespace LW
open PySem PySem.Spec PyProof.Rows L2 GxR
/-- a test of one sign that may read names of the module -/
def EltG (P : Program) (w : World) (mg : Str → Option Value) (sc : Scope) (x : Str) (e : Expr) (pb : Nat → Bool) : Prop :=
  ∀ (env : Env) (A : Around) (E : Value → Shared → Prop) (c : Nat) (t : Tok) (s : Shared) (m : Str → Option Value),
    env.scope = sc → env.globals = mainGlobals → s.heap.Ns mainGlobals mg → s.heap.Ns env.locals m → m x = some (.str ⟨#[c]⟩ t) →
    wpAny (model P w) A (eval e env) (fun y s' => y = .bool (pb c) ∧ Keeps s s') E s
theorem elt_inG {P : Program} {w : World} {mg : Str → Option Value} {sc : Scope} {x g z : Str} {tz : Tok} {p1 p2 p3 : Pos}
    (hk : sc.kind = .function) (hl : sc.names.lookup x = some .local) (hg : sc.names.lookup g = some .globalImplicit) (hm : mg g = some (.str z tz))
    (d1 : (x == ("__debug__" : Str)) = false := by decide) (d2 : (g == ("__debug__" : Str)) = false := by decide) :
    EltG P w mg sc x (.Compare (.Name x p1) [.In] [.Name g p2] p3) (fun c => decide (c ∈ z.cps.toList)) := by
  intro env A E c t s m e1 e2 n1 n2 hx
  subst e1
  refine wpAny_Compare1 (wpAny_Name (wpAny_loadName_local hk hl n2 hx ?_) d1)
  refine Calls.Name_function_global hk hg (Calls.loadGlobal_global (by rw [e2]; exact n1) hm ?_) d2
  refine PyProof.Rows.in_str ⟨?_, keeps_refl s⟩
  rw [PySem.StrLaws.found_one z c]
theorem ns_at {h h' : Heap} {a : Addr} {m : Str → Option Value} (n : h.Ns a m) (k : ∀ o, h.get? a = some o → h'.get? a = some o) : h'.Ns a m := by
  obtain ⟨o, es, ep, e, r⟩ := n
  exact ⟨o, es, ep, k o e, r⟩
end LW
namespace LW
open PySem PySem.Spec PyProof.Rows L2 GxR
section
variable {X : Cx} {pins : List (Addr × Obj)} {σ : L2.St} {H : Hp} {s : Shared}
/-- (test for x in text), the test reading the module's names: made, and ready to be walked -/
theorem gen_textG {c T : Addr} {e it : Expr} {x : Str} {px gp : Pos} {sc : Scope} {pb : Nat → Bool} {te : TE} {k : Nat} {Q' : Value → Shared → Prop} {R : Str → Hp → Prop}
    (hr : Room k X.A) (B : TabB X.base X.mg c T) (hc : X.env.code = .ref c) (S : GenS X.env sc x) (hi : PE X it te)
    (he : EltG X.prog X.w X.mg sc x e pb) (hs : ∀ v, genFold it X.env v = pure v) (I : Inv X pins σ H s)
    (h : te σ H fun v H1 => ∃ a : Str, v = .str a ∧ TabG H1 T ∧ R a H1)
    (q : ∀ a H1 g s5, R a H1 → Ready X pins σ H1 T a pb g s5 → Q' (.ref g) s5) :
    wpAny (model X.prog X.w) X.A (eval (.GeneratorExp e [⟨.Name x px, it, [], 0⟩] sc gp) X.env) Q' X.xe s := by
  have room : X.A.depth < recursionLimit := hr.depth
  refine wpAny_GeneratorExp_walksQ hr.hd S.co (closure_ok S.free) S.cell S.dot S.loc S.kind room ?_ hs
  refine thn (hi.run pins s σ H _ I h) ?_
  rintro xv s1 ⟨v, H1, I1, r1, a, ev, ⟨ps, hT, tr⟩, ra⟩
  subst ev
  obtain ⟨t, et⟩ := r1
  subst et
  refine wpAny_pyIter_str ?_
  intro o St W st0
  have oT : s1.heap.get? T = some { cls := .none, data := .fields ps } := I1.hok T _ hT
  have ltT := Heap.lt_size oT
  have oT2 : (s1.heap.push o).get? T = some { cls := .none, data := .fields ps } := Heap.get?_push_of_some _ oT
  have lim : (s1.heap.push o).NoLimit := I1.nolimit.push o
  have cd : PySem.W.CodeHd (s1.heap.push o) c T := B.code.keeps fun b u hb => Heap.get?_push_of_some _ (I1.bk b u hb)
  have psz : (s1.heap.push o).objs.size = s1.heap.objs.size + 1 := Heap.size_push ..
  have goG : ∃ og, s1.heap.get? mainGlobals = some og ∧ mainGlobals ≠ T := by
    obtain ⟨og, _, _, eg, _⟩ := I1.mod.glob
    exact ⟨og, I1.bk _ _ eg, B.gP⟩
  obtain ⟨og, gg, gT⟩ := goG
  have nsG : s1.heap.Ns mainGlobals X.mg := I1.mod.glob.keeps I1.bk
  -- what is left once the code of the generator is there
  have rest : ∀ (cv : Value) (h3 : Heap) (tk : Nat) (ps' more : Array Value), Heap.ExtBut T (s1.heap.push o) h3 → (s1.heap.push o).objs.size ≤ h3.objs.size →
      h3.get? T = some { cls := .none, data := .fields ps' } → ps' = ps ++ more → TriplesOk ps'.toList →
      wpAny (model X.prog X.w) X.A (builtinsFor X.env.globals X.env.builtins) (fun bi s4 =>
        ∃ Ia fp wr n0 Pf St0 pz F, Value.ref s1.heap.objs.size = .ref Ia ∧ (∀ A' : Around, A'.handled = none → Walks X.prog X.w A' Ia fp wr n0 Pf St0) ∧ St0 0 s4.heap ∧
          (∀ b ∈ fp, b < s4.heap.objs.size) ∧ s4.heap.NoLimit ∧ cStatics ∉ wr ∧
          (∀ hf : Heap, (∀ b u, s4.heap.get? b = some u → hf.get? b = some u) →
            QuietGen X.prog X.w (genEnv sc (cloFrom X.env.cells sc.names []) s4.heap.objs.size cv bi X.env) x [] e (List.range s4.heap.objs.size) wr Pf pz F hf) ∧
          (∀ g h5 tk' gs, gs.bare = true → s4.heap.objs.size < g → h5.objs.size = g + 1 → (∀ b u, s4.heap.get? b = some u → h5.get? b = some u) →
            WalksS X.prog X.w X.A.in4 g (g :: s4.heap.objs.size :: List.range s4.heap.objs.size) (s4.heap.objs.size :: wr) (GenOnlyQ s4.gens.size) (passing pz n0 0).length
              (fun j y => ∃ i, (passing pz n0 0)[j]? = some i ∧ F i y) (GenAt X.prog X.w X.A.in4 g s4.gens.size s4.heap.objs.size (List.range s4.heap.objs.size) wr pz n0 F) →
            GenAt X.prog X.w X.A.in4 g s4.gens.size s4.heap.objs.size (List.range s4.heap.objs.size) wr pz n0 F 0 { s4 with gens := s4.gens.push gs, toks := tk', heap := h5 } →
            Q' (.ref g) { s4 with gens := s4.gens.push gs, toks := tk', heap := h5 })) X.xe { s1 with heap := h3, toks := tk } := by
    intro cv h3 tk ps' more ext hz hT3 emore tr3
    have old : ∀ b u, b ≠ T → s1.heap.get? b = some u → h3.get? b = some u := fun b u n eu => ext b u n (Heap.get?_push_of_some _ eu)
    obtain ⟨bm, ob, m1, m2, m3, m4, m5, m6, m7, m8⟩ := B.bm
    have csT : cStatics ≠ T := by
      intro ee
      obtain ⟨_, ⟨o', es, ep, ho, hd, _⟩, _⟩ := I1.nolimit
      rw [ee, oT] at ho
      cases ho
      cases hd
    have csl : cStatics < s1.heap.objs.size := by
      obtain ⟨_, hn, _⟩ := I1.nolimit
      exact hn.lt
    have g3 : h3.Ns mainGlobals X.mg := ns_at nsG fun u hu => old _ u gT hu
    refine wpAny_builtinsFor (m := X.mg) (by rw [I1.ok.glob]; exact g3) m1 m2 (old _ _ m4 (I1.bk _ _ m5)) m6 m7 m8 ?_
    refine ⟨s1.heap.objs.size, [s1.heap.objs.size], [s1.heap.objs.size], a.cps.size, SignAt a, St, fun _ => true, fun i y => ∃ cc, a.cps[i]? = some cc ∧ y = .bool (pb cc), rfl, W, ?_, ?_, lim.extBut ext csT, ?_, ?_, ?_⟩
    · refine (W X.A hr.hd).frame _ _ _ st0 fun b hb u eu => ext b u ?_ eu
      have eb : b = s1.heap.objs.size := by simpa using hb
      rw [eb]
      exact Nat.ne_of_gt ltT
    · intro b hb
      have eb : b = s1.heap.objs.size := by simpa using hb
      rw [eb]
      show s1.heap.objs.size < h3.objs.size
      omega
    · intro z
      have z' : cStatics = s1.heap.objs.size := by simpa using z
      exact Nat.ne_of_lt csl z'
    · intro hf kf
      refine ⟨?_, ?_⟩
      · intro A' E' i v s₂ m₂ _ _ _ _ _
        simp only [List.forIn_nil]
        exact wpAny_pure ⟨rfl, keeps_refl _⟩
      · intro A' E' i v s₂ m₂ hA pv _ hn hm hk
        obtain ⟨cc, u, hcc, ev⟩ := pv
        subst ev
        have gl : s₂.heap.Ns mainGlobals X.mg := ns_at g3 fun u hu => by
          refine hk mainGlobals (List.mem_range.mpr (Heap.lt_size hu)) ?_ u (kf _ _ hu)
          intro z
          have z' : mainGlobals = s1.heap.objs.size := by simpa using z
          have l := Heap.lt_size gg
          rw [z'] at l
          exact Nat.lt_irrefl _ l
        have res := he (genEnv sc (cloFrom X.env.cells sc.names []) h3.objs.size cv builtinsNs X.env) A' E' cc u s₂ m₂ rfl I1.ok.glob gl hn hm
        exact wpAny_mono res (fun y s3 r => ⟨⟨cc, hcc, r.1⟩, r.2⟩) fun _ _ z => z
    · intro g h5 tk5 gs hgb hag hsz5 hk5 W5 hat
      simp only [GxR.passing_true, List.length_range] at W5
      refine q a H1 g _ ra ⟨_, _, _, _, _, W5.in4_1, hat, ?_, ?_⟩
      · rintro j y sj Qj Ej ⟨i, hij, cc, hcc, ey⟩ hq
        subst ey
        obtain ⟨hj, ej⟩ := List.getElem?_eq_some_iff.mp hij
        rw [List.getElem_range] at ej
        subst ej
        have at_j : a.cps.toList[j]? = some cc := by rw [Array.getElem?_toList]; exact hcc
        rw [trF_some at_j] at hq
        exact wpAny_truthy_bool hq
      · intro s' hm
        have nw : ∀ b u, s1.heap.get? b = some u → b ∉ h3.objs.size :: [s1.heap.objs.size] := by
          intro b u eu hb
          have l := Heap.lt_size eu
          have l3 : (s1.heap.objs.size : Nat) ≤ h3.objs.size := by omega
          rcases List.mem_cons.mp hb with z | z
          · rw [z] at l
            exact absurd (Nat.lt_of_lt_of_le l l3) (Nat.lt_irrefl _)
          · have z' : b = s1.heap.objs.size := by simpa using z
            rw [z'] at l
            exact Nat.lt_irrefl _ l
        have J := inv_tab (more := more) (h' := s'.heap) (g' := s'.gens) (d' := s'.drawn) (t' := s'.toks) I1 hT
          (fun b u n eu => hm.heap b u (nw b u eu) (hk5 b u (old b u n eu)))
          (by rw [← emore]; exact hm.heap T _ (nw T _ oT) (hk5 T _ hT3)) (AllBare.movedS (I1.bare.push hgb) hm)
        rw [sh_eta s1 s' hm.os] at J
        exact ⟨_, ⟨⟨ps ++ more, upd_same, by rw [← emore]; exact tr3⟩, fun b n => upd_ne n⟩, J⟩
  refine ⟨lim, ?_⟩
  cases hf : codeAmong gp ps.toList with
  | some cv =>
    refine wpAny_genexprCode_hit hc (cd.code oT2 tr) hf ?_
    exact rest cv (s1.heap.push o) s1.toks ps #[] (Heap.ExtBut.refl _ _) (Nat.le_refl _) oT2 (by simp) tr
  | none =>
    refine wpAny_genexprCodeX hc (cd.code oT2 tr) (cd.tab oT2) hf ?_
    intro c' h' tk ext ge lt isC _ htab _
    obtain ⟨o1, vs, f1, tf, fl, tg, inF, tx, tt, op, _, _, _, _, _, _, _, _, _, tr3, _⟩ := isC
    exact rest _ h' tk _ _ ext (Nat.le_trans ge (Nat.le_of_lt lt)) htab.2 rfl tr3
/-- all(test for x in e), e a text -/
theorem pe_allG {c T : Addr} {e it : Expr} {x : Str} {px p pos gp : Pos} {sc : Scope} {pb : Nat → Bool} {te : TE} {k : Nat}
    (hr : Room k X.A) (hg : Gl X "all") (hm : X.mg "all" = none) (B : TabB X.base X.mg c T) (hc : X.env.code = .ref c) (S : GenS X.env sc x)
    (hi : PE X it te) (he : EltG X.prog X.w X.mg sc x e pb) (hs : ∀ v, genFold it X.env v = pure v := by intro _; rfl)
    (ha : starEach [.GeneratorExp e [⟨.Name x px, it, [], 0⟩] sc gp] X.env = (false, eval (.GeneratorExp e [⟨.Name x px, it, [], 0⟩] sc gp) X.env) :: starEach [] X.env := by rfl) :
    PE X (.Call (.Name "all" p) [.GeneratorExp e [⟨.Name x px, it, [], 0⟩] sc gp] [] pos) (tAllS T pb te) := by
  constructor
  intro pins s σ H Q I h
  refine wpAny_Call_Name_kw (ld_blt I hg hm (u := .builtin "all") (by decide +kernel) ?_)
  refine PyProof.Rows.callWith_builtin1 ?_ ha (by rfl)
  rw [ha]
  show wpAny _ _ (spliced ((false, eval (.GeneratorExp e [⟨.Name x px, it, [], 0⟩] sc gp) X.env) :: backTo pos (starEach [] X.env))) _ _ s
  refine Calls.spliced_cons (gen_textG (R := fun a H1 => ∀ H2, Tabbed T H1 H2 → Q (.bl (a.cps.toList.all pb)) H2) hr B hc S hi he hs I h ?_)
  rintro a H1 g s5 hR ⟨fp, wr, G, F, St, W, hst, htr, hI⟩
  refine Calls.spliced_nil (call_all_walkS (W.self 0 _ _ _ hst ⟨g, fp, wr, G, _, F, St, _, rfl, W, hst, htr, ?_⟩))
  intro s' hmv
  obtain ⟨H2, hT, J⟩ := hI s' hmv
  refine ⟨.bl _, H2, J, rfl, ?_⟩
  rw [all_signs a pb]
  exact hR H2 hT
end
end LW
namespace LW
open PySem
/-! ### sixteen hexadecimal digits -/
def dig (d : Nat) : Nat := if d < 10 then 48 + d else 87 + d
/-- k digits of n -/
def hx : Nat → Nat → List Nat
  | 0, _ => []
  | k + 1, n => hx k (n / 16) ++ [dig (n % 16)]
theorem hx_len : ∀ k n, (hx k n).length = k
  | 0, _ => rfl
  | k + 1, n => by simp [hx, hx_len k]
theorem hx_zero : ∀ k, hx k 0 = List.replicate k 48
  | 0 => rfl
  | k + 1 => by
    show hx k (0 / 16) ++ [dig (0 % 16)] = _
    rw [Nat.zero_div, hx_zero k, List.replicate_succ']
    rfl
theorem core_acc : ∀ (f n : Nat) (ds : List Char), Nat.toDigitsCore 16 f n ds = Nat.toDigitsCore 16 f n [] ++ ds
  | 0, n, ds => rfl
  | f + 1, n, ds => by
    unfold Nat.toDigitsCore
    by_cases h : n / 16 = 0
    · simp [h]
    · simp only [h, if_false]
      rw [core_acc f (n / 16) (Nat.digitChar (n % 16) :: ds), core_acc f (n / 16) [Nat.digitChar (n % 16)]]
      simp
theorem dig_char {d : Nat} (h : d < 16) : (Nat.digitChar d).toNat = dig d := by
  have : ∀ d : Fin 16, (Nat.digitChar d.val).toNat = dig d.val := by decide +kernel
  exact this ⟨d, h⟩
theorem core_hx : ∀ (k f n : Nat), 1 ≤ k → n < 16 ^ k → n < f →
    ((Nat.toDigitsCore 16 f n []).map Char.toNat).length ≤ k ∧
    List.replicate (k - ((Nat.toDigitsCore 16 f n []).map Char.toNat).length) 48 ++ (Nat.toDigitsCore 16 f n []).map Char.toNat = hx k n
  | 0, _, _, h, _, _ => by omega
  | k + 1, 0, n, _, _, h => by omega
  | k + 1, f + 1, n, _, h, hf => by
    have hm : n % 16 < 16 := Nat.mod_lt _ (by decide)
    by_cases h0 : n / 16 = 0
    · have e : Nat.toDigitsCore 16 (f + 1) n [] = [Nat.digitChar (n % 16)] := by
        unfold Nat.toDigitsCore
        simp [h0]
      rw [e]
      refine ⟨by simp, ?_⟩
      show List.replicate (k + 1 - 1) 48 ++ [(Nat.digitChar (n % 16)).toNat] = hx k (n / 16) ++ [dig (n % 16)]
      rw [h0, hx_zero, dig_char hm, Nat.add_sub_cancel]
    · have e : Nat.toDigitsCore 16 (f + 1) n [] = Nat.toDigitsCore 16 f (n / 16) [] ++ [Nat.digitChar (n % 16)] := by
        rw [← core_acc]
        conv => lhs; unfold Nat.toDigitsCore
        simp [h0]
      have h16 : n / 16 < 16 ^ k := by
        rw [Nat.div_lt_iff_lt_mul (by decide)]
        rw [Nat.pow_succ] at h
        exact h
      have k1 : 1 ≤ k := by
        cases k with
        | zero => rw [Nat.pow_zero] at h16; omega
        | succ k => omega
      have ih := core_hx k f (n / 16) k1 h16 (by omega)
      rw [e, List.map_append]
      refine ⟨by have i1 := ih.1; simp only [List.length_append, List.length_map, List.length_cons, List.length_nil] at i1 ⊢; omega, ?_⟩
      show List.replicate (k + 1 - _) 48 ++ (_ ++ [(Nat.digitChar (n % 16)).toNat]) = hx k (n / 16) ++ [dig (n % 16)]
      rw [← ih.2, dig_char hm, ← List.append_assoc]
      have el : ((Nat.toDigitsCore 16 f (n / 16) []).map Char.toNat ++ ([Nat.digitChar (n % 16)].map Char.toNat)).length = ((Nat.toDigitsCore 16 f (n / 16) []).map Char.toNat).length + 1 := by simp
      rw [el, show k + 1 - (((Nat.toDigitsCore 16 f (n / 16) []).map Char.toNat).length + 1) = k - ((Nat.toDigitsCore 16 f (n / 16) []).map Char.toNat).length by omega]
theorem toDigits_hx {n : Nat} (h : n < 16 ^ 16) : ((Nat.toDigits 16 n).map Char.toNat).length ≤ 16 ∧
    List.replicate (16 - ((Nat.toDigits 16 n).map Char.toNat).length) 48 ++ (Nat.toDigits 16 n).map Char.toNat = hx 16 n := core_hx 16 (n + 1) n (by decide) h (by omega)
theorem toDigits_ne (n : Nat) : ((Nat.toDigits 16 n).map Char.toNat).isEmpty = false := by
  unfold Nat.toDigits
  by_cases h0 : n / 16 = 0
  · unfold Nat.toDigitsCore
    simp [h0]
  · unfold Nat.toDigitsCore
    simp only [h0, if_false]
    rw [core_acc]
    simp
/-- the digits as they are counted -/
def hexDigits : List Nat := [48, 49, 50, 51, 52, 53, 54, 55, 56, 57, 97, 98, 99, 100, 101, 102]
theorem dig_mem {d : Nat} (h : d < 16) : dig d ∈ hexDigits := by
  have : ∀ d : Fin 16, dig d.val ∈ hexDigits := by decide +kernel
  exact this ⟨d, h⟩
theorem hx_mem : ∀ k n, ∀ c ∈ hx k n, c ∈ hexDigits
  | 0, _, c, h => by simp [hx] at h
  | k + 1, n, c, h => by
    rcases List.mem_append.mp h with h | h
    · exact hx_mem k _ c h
    · rw [List.mem_singleton.mp h]
      exact dig_mem (Nat.mod_lt _ (by decide))
/-- the value of a digit: its first place -/
def val (c : Nat) : Nat := hexDigits.idxOf c
def readHex (l : List Nat) : Nat := l.foldl (fun n c => n * 16 + val c) 0
theorem val_dig {d : Nat} (h : d < 16) : val (dig d) = d := by
  have : ∀ d : Fin 16, val (dig d.val) = d.val := by decide +kernel
  exact this ⟨d, h⟩
theorem read_hx : ∀ k n, n < 16 ^ k → readHex (hx k n) = n
  | 0, n, h => by
    rw [Nat.pow_zero] at h
    have : n = 0 := by omega
    subst this
    rfl
  | k + 1, n, h => by
    have h16 : n / 16 < 16 ^ k := by
      rw [Nat.div_lt_iff_lt_mul (by decide)]
      rw [Nat.pow_succ] at h
      exact h
    have ih := read_hx k _ h16
    unfold readHex at ih ⊢
    show (hx k (n / 16) ++ [dig (n % 16)]).foldl _ 0 = n
    rw [List.foldl_append, ih]
    show n / 16 * 16 + val (dig (n % 16)) = n
    rw [val_dig (Nat.mod_lt _ (by decide))]
    omega
/-- the address's text of a number -/
def hexS (n : Nat) : Str := ⟨(hx 16 n).toArray⟩
end LW
namespace LW
open PySem PySem.Spec PyProof.Rows L2
/-- the field of a number in sixteen hexadecimal digits -/
def fld (neg : Bool) (n : Nat) : Str :=
  let sg : List Nat := if neg then [45] else []
  let ds0 : List Nat := (Nat.toDigits 16 n).map fun c => c.toNat
  let other : Int := (sg.length : Int) + 0 + 0
  let room : Int := 16 - other
  let ds : List Nat := if ds0.isEmpty then [] else List.replicate (room.toNat - ds0.length) 48 ++ ds0
  let pad : Nat := (16 - other - (ds.length : Int)).toNat
  ⟨(List.replicate 0 48 ++ sg ++ [] ++ List.replicate pad 48 ++ ds ++ [] ++ List.replicate 0 48).toArray⟩
theorem iteNo {c : Prop} [Decidable c] {X Y : Prop} (hc : ¬ c) (h : Y) : if c then X else Y := by
  rw [if_neg hc]
  exact h
theorem iteYes {c : Prop} [Decidable c] {X Y : Prop} (hc : c) (h : X) : if c then X else Y := by
  rw [if_pos hc]
  exact h
theorem gives_hex (a : Int) (t u : Tok) : Gives (Builtin.«int.__format__» ⟨[.int a t, .str "016x" u], []⟩) (.str (fld (decide (a < 0)) a.natAbs)) := by
  intro prog w A R s hq
  unfold Builtin.«int.__format__»
  refine wpAny_bind (wpAny_of_eq (a := (_, _)) rfl ?_)
  refine wpAny_bind (wpAny_of_eq (a := a) rfl ?_)
  refine wpAny_bind (wpAny_typeNameOf (T := "str") (typeIs_str _ _ _) (by decide) fun _ => ?_)
  refine wpAny_bind (wpAny_of_eq (a := some _) rfl ?_)
  refine wpAny_ite (iteNo (by decide +kernel) ?_)
  refine wpAny_ite (iteNo (by decide +kernel) ?_)
  refine wpAny_bind (wpAny_typeNameOfCut_int ?_)
  have hp : Builtin.Float.parseFormatSpec (Str.ofString "016x").cps.toList "int" 62 = .ok ⟨48, 61, none, false, false, some 16, none, none, some 120⟩ := by rfl
  rw [hp]
  refine wpAny_ite (iteYes (by decide +kernel) ?_)
  exact Gives.of_eq (m := .str (fld (decide (a < 0)) a.natAbs)) rfl prog w A R s hq
end LW
namespace LW
open PySem PySem.Spec PyProof.Rows L2
theorem fld_hexS {n : Nat} (h : n < 16 ^ 16) : fld false n = hexS n := by
  have e := toDigits_hx h
  have l : (hx 16 n).length = 16 := hx_len 16 n
  unfold fld hexS
  simp only [toDigits_ne, Bool.false_eq_true, if_false, List.length_nil, List.replicate_zero, List.nil_append, List.append_nil]
  rw [show ((16 : Int) - (((0 : Nat) : Int) + 0 + 0)).toNat = 16 from rfl, show (fun c : Char => c.toNat) = Char.toNat from rfl, e.2, l]
  rfl
theorem gives_hexS {n : Nat} (h : n < 16 ^ 16) (t u : Tok) : Gives (Builtin.«int.__format__» ⟨[.int (n : Int) t, .str "016x" u], []⟩) (.str (hexS n)) := by
  have g := gives_hex (n : Int) t u
  rw [show decide ((n : Int) < 0) = false from decide_eq_false (by omega), Int.natAbs_natCast, fld_hexS h] at g
  exact g
theorem hexS_len (n : Nat) : (hexS n).length = 16 := by
  show (hx 16 n).toArray.size = 16
  rw [List.size_toArray, hx_len]
section
variable {X : Cx}
/-- {n:016x} -/
def tHex (te : TE) : TE := fun σ H Q => te σ H fun x H1 => ∃ n : Nat, x = .int (n : Int) ∧ n < 16 ^ 16 ∧ Q (.str (hexS n)) H1
theorem pe_hex {e : Expr} {te : TE} {j : Nat} {p1 p2 pos : Pos} (he : PE X e te) : PE X (.FormattedValue e (-1) (some (.JoinedStr [.Constant (.str "016x") j p1] p2)) pos) (tHex te) := by
  constructor
  intro pins s σ H Q I h
  refine wpAny_FormattedValue_spec (thn (he.run pins s σ H _ I h) ?_)
  rintro v s1 ⟨x, H1, I1, r1, n, ex, hn, q⟩
  subst ex
  obtain ⟨t, et⟩ := r1
  subst et
  refine wpAny_JoinedStr_one (Calls.Constant_str ⟨_, _, rfl, ?_⟩)
  refine wpAny_formatField_spec (by decide +kernel) (fun s' => typeIs_int s' (n : Int) t) F.slot_int_format F.entry_int_format F.args_int_format_2 (fun u => gives_hexS hn t u) ?_ (by decide +kernel)
    (by rw [hexS_len]; decide +kernel)
  exact ⟨.str (hexS n), H1, (I1.tok _).tok _, ⟨_, rfl⟩, q⟩
end
end LW
namespace LW
open PySem PySem.Spec PyProof.Rows L2
/-- as it was but at D -/
def But (D : Addr) (H H' : Hp) : Prop := ∀ b, b ≠ D → H' b = H b
theorem But.refl (D : Addr) (H : Hp) : But D H H := fun _ _ => rfl
theorem But.upd {D : Addr} {H : Hp} {o : HO} : But D H (upd H D o) := fun _ hb => upd_ne hb
theorem But.same {D : Addr} {H H' : Hp} (h : But D H H') (n : H D = none) : Same H H' := fun b o e => by
  rw [h b (ne_of_none e n)]
  exact e
theorem But.list {K : PySem.W.Frag} {D a : Addr} {H H' : Hp} {xs : List V} (h : But D H H') (n : H D = none) (s : SqL K H a xs) : SqL K H' a xs := (h.same n).seq s
theorem upd_eq {H H' : Hp} {D : Addr} {o : HO} (h : But D H H') (e : H' D = some o) : H' = upd H D o := by
  funext b
  by_cases hb : b = D
  · subst hb; rw [e, upd_same]
  · rw [h b hb, upd_ne hb]
section
variable {J : It} {n : Nat} {G : Hp → Prop} {Y : Nat → Hp → V → Hp → Prop}
/-- a comprehension whose parts make nothing -/
theorem lc_flt (w : Walk J n G Y) {j : Nat} {tt : TT} {te : TE} {vs : List Nat} {σ : L2.St} {H1 : Hp} {D : Addr} {Qd : Hp → Prop} (t : Nat → Bool) (f : Nat → V)
    (hn : n < 16000000) (hG : ∀ H, But D H1 H → G H) (hw : ∀ x, wipe ((wipe σ vs).set j (some x)) vs = wipe σ vs)
    (hs : ∀ i x H H', i < n → But D H1 H → Y i H x H' → H' = H ∧ (∀ Q : Bool → Hp → Prop, Q (t i) H → tt ((wipe σ vs).set j (some x)) H Q) ∧ (t i = true → ∀ Q : VK, Q (f i) H → te ((wipe σ vs).set j (some x)) H Q))
    (hd : Qd (upd H1 D (.lst (((List.range n).filter t).map f)))) :
    ∃ W : Nat → Nat → Hp → Prop, (∃ m, W 0 m (upd H1 D (.lst []))) ∧ ∀ i m H, W i m H →
      (J.stop i H ∧ Qd H) ∨ (J.go i H ∧ ∃ Nx : Hp → Prop, (∀ H', Nx H' → ∃ m', m' < m ∧ W (i + 1) m' H') ∧ ∀ x H', J.yld i H x H' → gName j x (wipe σ vs) H' fun σ2 H2 => wipe σ2 vs = wipe σ vs ∧ tt σ2 H2 fun b H3 =>
        if b = true then te σ2 H3 fun y H4 => ∃ acc, H4 D = some (.lst acc) ∧ acc.length < sizeLine ∧ Nx (upd H4 D (.lst (acc ++ [y]))) else Nx H3) := by
  refine lc_it w (fun i H => H = upd H1 D (.lst (((List.range i).filter t).map f))) rfl (fun i H _ e => hG H (by rw [e]; exact But.upd)) ?_ (fun H e => by rw [e]; exact hd)
  rintro i x H H' hi e hy
  have b1 : But D H1 H := by rw [e]; exact But.upd
  obtain ⟨e2, ht, he⟩ := hs i x H H' hi b1 hy
  subst e2
  have hD : H' D = some (.lst (((List.range i).filter t).map f)) := by rw [e, upd_same]
  refine ⟨hw x, ht _ ?_⟩
  rw [List.range_succ, List.filter_append, List.map_append]
  cases hti : t i with
  | true =>
    rw [if_pos rfl]
    refine he hti _ ⟨_, hD, ?_, ?_⟩
    · have l1 : (((List.range i).filter t).map f).length ≤ i := by
        rw [List.length_map]
        exact Nat.le_trans (List.length_filter_le _ _) (by rw [List.length_range]; exact Nat.le_refl _)
      exact Nat.lt_of_le_of_lt l1 (Nat.lt_trans hi (Nat.lt_trans hn (by decide)))
    · rw [e, upd_upd]
      simp [hti]
  | false =>
    rw [if_neg Bool.false_ne_true]
    simp [hti]
    exact e
theorem lc_map (w : Walk J n G Y) {j : Nat} {te : TE} {vs : List Nat} {σ : L2.St} {H1 : Hp} {D : Addr} {Qd : Hp → Prop} (f : Nat → V)
    (hn : n < 16000000) (hG : ∀ H, But D H1 H → G H) (hw : ∀ x, wipe ((wipe σ vs).set j (some x)) vs = wipe σ vs)
    (hs : ∀ i x H H', i < n → But D H1 H → Y i H x H' → H' = H ∧ ∀ Q : VK, Q (f i) H → te ((wipe σ vs).set j (some x)) H Q)
    (hd : Qd (upd H1 D (.lst ((List.range n).map f)))) :
    ∃ W : Nat → Nat → Hp → Prop, (∃ m, W 0 m (upd H1 D (.lst []))) ∧ ∀ i m H, W i m H →
      (J.stop i H ∧ Qd H) ∨ (J.go i H ∧ ∃ Nx : Hp → Prop, (∀ H', Nx H' → ∃ m', m' < m ∧ W (i + 1) m' H') ∧ ∀ x H', J.yld i H x H' → gName j x (wipe σ vs) H' fun σ2 H2 => wipe σ2 vs = wipe σ vs ∧ tYes σ2 H2 fun b H3 =>
        if b = true then te σ2 H3 fun y H4 => ∃ acc, H4 D = some (.lst acc) ∧ acc.length < sizeLine ∧ Nx (upd H4 D (.lst (acc ++ [y]))) else Nx H3) := by
  refine lc_flt w (tt := tYes) (fun _ => true) f hn hG hw (fun i x H H' hi hb hy => ?_) ?_
  · obtain ⟨e, k⟩ := hs i x H H' hi hb hy
    exact ⟨e, fun Q q => q, fun _ => k⟩
  · rw [List.filter_eq_self.mpr (fun _ _ => rfl)]
    exact hd
end
theorem range_map_get {α β : Type} (g : α → β) (d : α) (l : List α) : (List.range l.length).map (fun i => g (l.getD i d)) = l.map g := by
  apply List.ext_getElem
  · simp
  · intro i h1 h2
    simp at h1 h2 ⊢
    rw [List.getElem?_eq_getElem (by simpa using h1)]
    rfl
theorem cutV_map {α : Type} (g : α → V) (xs : List α) (lo hi : Option Int) : ∃ ys : List α, cutV (xs.map g) lo hi = ys.map g ∧ ys.length ≤ xs.length ∧ ∀ y ∈ ys, y ∈ xs := by
  refine ⟨(xs.drop (HT.sIx xs.length 0 lo)).take (HT.sIx xs.length xs.length hi - HT.sIx xs.length 0 lo), ?_, ?_, ?_⟩
  · unfold cutV
    rw [List.length_map, ← List.map_drop, ← List.map_take]
  · rw [List.length_take, List.length_drop]
    omega
  · intro y hy
    exact List.mem_of_mem_drop (List.mem_of_mem_take hy)
section
variable {X : Cx}
/-- repr(b) -/
theorem call_repr_bl : CallR X (.builtin "repr") (fun xs H Q => ∃ b : Bool, xs = [.bl b] ∧ Q (.str (if b then "True" else "False")) H) := by
  intro pins s σ H xs us Q I r h
  obtain ⟨b, rfl, q⟩ := h
  obtain ⟨u, rfl, r1⟩ := vals1 r
  cases (show u = Value.bool b from r1)
  exact PySem.P.repr_of_bool ⟨.str _, H, I.tok _, ⟨_, rfl⟩, q⟩
end
end LW
namespace LW
open PySem PySem.Spec PyProof.Rows L2
/-! ### super().__init__(..) in the __init__ of an own exception over ValueError -/
/-- what the written part says of the class and the code that stands there -/
structure SupAt (P : Program) (K : PySem.W.Frag) (C cc cda : Addr) : Prop where
  T : OexC K C
  cell : ∃ cl cld csl, K.lookup cc = some ⟨cl, cld, .cell (some (.ref C)), csl⟩
  code : ∃ ccl cdd ccs vs file tf, K.lookup cda = some ⟨ccl, cdd, .fields vs, ccs⟩ ∧ vs[2]? = some (.str file tf) ∧ ((P.main.file : Str) == file) = true
  top : (P.main.scope.names.lookup ("super" : Str)).isSome = false
  opq : PySem.W.nsIn K cStatics "thirdparty.any" = some none
  own : PySem.W.mroIn K C (.ref C) = some true
  sup : PySem.W.ks_superIn K C C "__init__" = some (some (.builtin "ValueError.__init__"))
  sub : PySem.W.subIn K (.ref C) (.type "ValueError") = some true
theorem boot_super : bootBuiltins "super" = some (.type "super") := by decide +kernel
section
variable {X : Cx} {pins : List (Addr × Obj)} {σ : L2.St} {H : Hp} {s : Shared}
theorem sup_init {a C cc cda f : Addr} {body rest : List Stmt} {e : Expr} {ta : TA} {p0 p1 p2 p3 pos : Pos} {ar : Arg} {of : Obj} {fd : FuncData} {Qf : Flow → Shared → Prop} {R : Hp → Prop} {i : Nat}
    (S : SupAt X.prog X.K C cc cda) (I : Inv X pins σ H s) (mS : X.mg "super" = none)
    (kf : X.K.lookup f = some of) (of1 : of.data = .func fd) (hp : (fd.params.posonlyargs ++ fd.params.args).head? = some ar)
    (ef : X.env.func = some f) (ec : X.env.code = .ref cda) (hks : X.env.kindOf "super" = some .globalImplicit) (hkc : X.env.kindOf "__class__" = some .free) (hcl : X.env.cells.lookup ("__class__" : Str) = some cc)
    (hka : X.env.kindOf ar.arg = some .local) (hN : X.N[i]? = some ar.arg) (hs : σ[i]? = some (some (.ref a)))
    (ha : H a = some (exo a C none)) (he : PA X [e] ta)
    (h : ta σ H fun vs H1 => vs.length ≤ 1000 ∧ H1 a = some (exo a C none) ∧ R H1)
    (q : ∀ H1 s1, Inv X pins σ H1 s1 → R H1 → H1 a = some (exo a C none) → wpAny (model X.prog X.w) X.A (execs rest X.env) Qf X.xe s1)
    (hi : interactive X.env = false) {pl : Sem Bool}
    (hc : eval (.Call (.Attribute (.Call (.Name "super" p0) [] [] p1) "__init__" p2) [e] [] p3) X.env = (do
      let ov ← attributeBase (.Call (.Name "super" p0) [] [] p1) "__init__" X.env (eval (.Call (.Name "super" p0) [] [] p1) X.env)
      standAt p2.atName
      let (f, first) ← holding [ov] (getMethod ov "__init__" pl)
      callWith p3 f first (backTo p3 (starEach [e] X.env)) []) := by rfl)
    (hst : starEach [e] X.env = (false, eval e X.env) :: starEach [] X.env := by rfl)
    (hsw : swapsWith (.Call (.Attribute (.Call (.Name "super" p0) [] [] p1) "__init__" p2) [e] [] p3) none pos.line X.env = pure false := by rfl) :
    PySem.wpAt (model X.prog X.w) X.A (.func body X.env) (execs (.Expr (.Call (.Attribute (.Call (.Name "super" p0) [] [] p1) "__init__" p2) [e] [] p3) pos :: rest) X.env) Qf X.xe s := by
  obtain ⟨nm, qn, N, bs, bm, sn, sub, ab, col, dd, k0, k1, k2, k3, k5, hC, hbm⟩ := S.T.cls
  obtain ⟨cl, cld, csl, hcell⟩ := S.cell
  obtain ⟨ccl, cdd, ccs, vs, file, tf, hcode, hvs, hfile⟩ := S.code
  obtain ⟨t1, hx⟩ := exo_at I.hok ha
  obtain ⟨mb, hb1, hb2⟩ := I.mod.blt
  have hcd : PySem.W.clsIn X.K C = some { name := nm, bases := bs, mro := .ref C :: bm, ns := N, qualname := qn, hasDict := true, slotNames := sn, subclasses := sub, abstract := ab, collection := col, hasDel := false } := by unfold PySem.W.clsIn; rw [hC] <;> rfl
  have sup := S.sup
  unfold PySem.W.ks_superIn at sup
  rw [hcd] at sup
  refine ks_wpAt_execs_cons (ks_wpAt_Expr_any (ks_wpAt_MethodCall (pl := pl) ?_ hc) hi hsw)
  refine ks_wpAt_super_base hks hkc (by decide) ef (I.kIn _ _ kf) of1 hp ec (I.kIn _ _ hcode) rfl hvs hfile S.top ?_
  refine PySem.W.ks_loadName_global I.ok.kind hks (Calls.loadGlobal_builtin (by rw [I.ok.glob]; exact I.mod.glob.keeps I.bk) mS (by rw [I.ok.blt]; exact hb1.keeps I.bk) ((hb2 "super" (by decide)).trans boot_super) ⟨rfl, ?_⟩)
  refine wpAny_loadName_free I.ok.kind hkc hcl ⟨_, I.kIn _ _ hcell, rfl⟩ ?_
  have hself : ∃ m, s.heap.Ns X.env.locals m ∧ m ar.arg = some (.ref a) := by
    obtain ⟨m, hn, hlk⟩ := I.loc
    obtain ⟨u, ru, L⟩ := hlk i ar.arg (.ref a) hN hs (.inl hka)
    cases (show u = Value.ref a from ru)
    rcases L with ⟨_, z⟩ | ⟨z, _⟩
    · exact ⟨m, hn, z⟩
    · rw [hka] at z
      rcases z with z | z <;> cases z
  obtain ⟨m, hns, hm⟩ := hself
  refine wpAny_loadName_local I.ok.kind hka hns hm ?_
  refine ks_wpAny_isType_cls (I.kIn _ _ hC) rfl ⟨rfl, ?_⟩
  obtain ⟨hp, g, d, t, os⟩ := s
  refine ks_wpAny_call_super (I.kIn _ _ hC) rfl hx rfl (fun c z => nomatch z) (PySem.W.looks_mroIn I.kIn S.own) (fun h' es k => ?_)
  have I1 : Inv X pins σ H ⟨h', g, d, t, os⟩ := I.kept (t' := t) k
  have hx1 := k _ _ hx
  have IA : PySem.W.InstAt h' a ({ cls := .ref C, dict := none, data := .fields #[.ref t1, .none, .none, .none, .bool false, .none] } : Obj) C none := ⟨hx1, rfl, rfl, trivial⟩
  refine PySem.W.kxs_getMethod PySem.W.kxs_ValueError es (PySem.W.looks_opaque I1.kIn S.opq) (l₀ := .ref C :: bm) ?_ rfl I1.kIn sup (IA.type.andThen (PySem.W.looks_subIn I1.kIn S.sub)) (PySem.W.ks_ne I1.kIn IA hcd) (by decide) ?_
  · exact fun A Q E s k q => wpAny_bind ((PySem.W.looks_clsIn I1.kIn hcd) A _ E s k (wpAny_pure q))
  · have szu : hp.objs.size < h'.objs.size := Heap.lt_size es
    have lex := Heap.lt_size hx1
    have k2 : ∀ b o, h'.get? b = some o → (h'.push (PySem.W.kxs_mw "ValueError.__init__" a)).get? b = some o := fun b o z => Heap.get?_push_of_some _ z
    have hu : (h'.push (PySem.W.kxs_mw "ValueError.__init__" a)).get? h'.objs.size = some (PySem.W.kxs_mw "ValueError.__init__" a) := Heap.get?_push_at rfl rfl
    have I2 : Inv X pins σ H ⟨h'.push (PySem.W.kxs_mw "ValueError.__init__" a), g, d, t + 1, os⟩ := I1.kept (t' := t + 1) k2
    have fpo := I1.fpOk (Nat.le_refl h'.objs.size) (I1.hok.fresh (Nat.le_refl _))
    have I3 : Inv X (pins ++ [(h'.objs.size, PySem.W.kxs_mw "ValueError.__init__" a)]) σ H ⟨h'.push (PySem.W.kxs_mw "ValueError.__init__" a), g, d, t + 1, os⟩ := I2.pins_of fun p hp => by
      rcases List.mem_append.mp hp with z | z
      · exact I2.pin p (List.mem_append_right _ z)
      · rw [List.mem_singleton.mp z]
        exact ⟨hu, fpo.1, fpo.2.1, fpo.2.2.1, fun v z => nomatch z⟩
    rw [hst]
    refine PySem.W.kxs_callWith (i := "ValueError.__init__") (x := a) rfl (Calls.evalArgs_plain ?_)
    have run := he.run p3 _ _ σ H _ I3 h
    rw [hst] at run
    refine thn run ?_
    rintro us s1 ⟨ws, H1, J, rv, hlen, ha1, hR⟩
    have hu1 : s1.heap.get? h'.objs.size = some (PySem.W.kxs_mw "ValueError.__init__" a) := (J.pin (h'.objs.size, PySem.W.kxs_mw "ValueError.__init__" a) (by simp)).1
    refine ⟨hu1, ?_⟩
    obtain ⟨t2, hx2⟩ := exo_at J.hok ha1
    have hz : us.length ≤ sizeLine := by
      rw [← Paired.length rv, sizeLine_eq]
      omega
    obtain ⟨h2, g2, d2, tk2, os2⟩ := s1
    refine wpAny_call (codeAny_of_tree ?_)
    show wpAny _ X.A.in1 (callAny (.ref h'.objs.size) ⟨us, []⟩) _ _ _
    simp only [callAny]
    refine wpAny_bind (wpAny_load hu1 ?_)
    simp only [PySem.W.kxs_mw, show (Value.type "method-wrapper" == Value.type "method" || Value.type "method-wrapper" == Value.type "builtin_function_or_method" || Value.type "method-wrapper" == Value.type "method-wrapper") = true by decide, if_true]
    refine PySem.W.KFB.if_so (by decide) ?_
    refine wpAny_bind (PySem.W.check_bound_init F.excBase_ValueError.toExcCallFacts (J.kIn _ _ hC) hx2 rfl ?_)
    refine wpAny_bind (wpAny_pure (wpAny_pure ?_))
    refine ⟨plainId_quiet F.excBase_ValueError.init.plain _, codeAny_builtin F.excBase_ValueError.initEntry ?_⟩
    refine PySem.W.exc_init_tree (cls := .ref C) (t0 := t2) (dv := none) (c2 := .none) (c3 := .none) (b4 := .bool false) hx2 hz fun h3 k3 e3 t3 => ?_
    have J2 := J.write (t' := tk2) (x := a) (e := a) (o := exo a C none) (by rw [ha1]; exact True.intro) (.inl rfl) k3 ⟨_, e3⟩ (exo_ok e3)
    have eu : upd H1 a (exo a C none) = H1 := by
      funext b
      by_cases hb : b = a
      · rw [hb, upd_same, ha1]
      · rw [upd_ne hb]
    rw [eu] at J2
    exact PySem.wpAt_of_wpAny (q H1 _ J2.unpinned hR ha1)
end
end LW
namespace LW
open PySem PySem.Spec PyProof.Rows L2
structure SupScope (N P : List Str) (sc : Scope) : Prop where
  kind : sc.kind = .function
  co : sc.isCoroutine = false
  gen : sc.isGenerator = false
  nd : N.Nodup
  pre : N.take P.length = P
  par : ∀ x ∈ P, sc.names.lookup x = some .local
  nocell : ∀ y ∈ sc.names, y.2 ≠ .cell
  free : ∀ y ∈ sc.names, y.2 = .free → y.1 = ("__class__" : Str)
def cxS (CX : CXT) (P : Program) (w : World) (K : PySem.W.Frag) (mg : Str → Option Value) (base : Heap) (N : List Str) (qual : Str) (scope : Scope) (f : Addr) (cd : Value) (cc : Addr) (A : Around) (outer : List Env) (s : Shared) (H : Hp) (E : XK) : Cx where
  prog := P
  w := w
  K := K
  mg := mg
  base := base
  A := A.deeper (PySem.W.ksEnv qual scope s.heap.objs.size f cd cc)
  N := N
  s_0 := s
  H_0 := H
  env := PySem.W.ksEnv qual scope s.heap.objs.size f cd cc
  outer := outer
  stack := PySem.W.ksEnv qual scope s.heap.objs.size f cd cc :: outer
  ex := []
  calm := true
  fn := fun _ => false
  pn := []
  xe := fun e s' => wpAny (model P w) (A.deeper (PySem.W.ksEnv qual scope s.heap.objs.size f cd cc)) (leaving (PySem.W.ksEnv qual scope s.heap.objs.size f cd cc) e) (fun _ s'' => CX outer H s E e s'') (fun e' s'' => CX outer H s E e' s'') s'
theorem zip_lookup {P : List Str} {us : List Value} {i : Nat} {x : Str} {v : Value} (nd : P.Nodup) (h1 : P[i]? = some x) (h2 : us[i]? = some v) : (P.zip us).reverse.lookup x = some v := by
  induction P generalizing us i with
  | nil => simp at h1
  | cons p r ih =>
    cases us with
    | nil => simp at h2
    | cons u us =>
      show ((p, u) :: r.zip us).reverse.lookup x = some v
      rw [List.reverse_cons, List.lookup_append]
      cases i with
      | zero =>
        simp at h1 h2
        subst h1
        subst h2
        have : (r.zip us).reverse.lookup p = none := by
          cases e : (r.zip us).reverse.lookup p with
          | none => rfl
          | some w =>
            have m := PySem.mem_of_lookup e
            rw [List.mem_reverse] at m
            exact absurd (List.of_mem_zip m).1 (List.nodup_cons.mp nd).1
        rw [this]
        simp
      | succ i =>
        rw [ih (List.nodup_cons.mp nd).2 (by simpa using h1) (by simpa using h2)]
        rfl
theorem inv_sup {CX : CXT} {P : Program} {w : World} {K : PySem.W.Frag} {mg : Str → Option Value} {base : Heap} {N ps : List Str} {qual : Str} {scope : Scope} {f cc : Addr} {cd : Value} {A : Around} {outer : List Env} {s : Shared} {H : Hp} {E : XK} {us : List Value} {vs : List V} {h₀ : Heap} {tk : Nat} {oc : Obj} {vc : Option Value}
    (S : SupScope N ps scope) (hd : A.handled = none) (e0 : Env0 P w K mg base A outer s H) (hl : vs.length = ps.length) (r : Vals vs us) (hcc : K.lookup cc = some oc) (hvc : oc.data = .cell vc)
    (hns : h₀.Ns s.heap.objs.size (fun x => (ps.zip us).reverse.lookup x)) (hk : ∀ b o, s.heap.get? b = some o → h₀.get? b = some o) :
    Inv (cxS CX P w K mg base N qual scope f cd cc A outer s H E) [] (start N vs) H { s with heap := h₀, toks := tk } := by
  have hpl : ps.length ≤ N.length := by have := congrArg List.length S.pre; rw [List.length_take] at this; omega
  have noA : ∀ b : Addr, b ∉ (cxS CX P w K mg base N qual scope f cd cc A outer s H E).ex := fun b z => absurd (show b ∈ ([] : List Addr) from z) (by simp)
  have only : ∀ y c, (cxS CX P w K mg base N qual scope f cd cc A outer s H E).env.cells.lookup y = some c → y = ("__class__" : Str) ∧ c = cc := fun y c z => by
    have m : (y, c) ∈ [(("__class__" : Str), cc)] := PySem.mem_of_lookup z
    have e := List.mem_singleton.mp m
    cases e
    exact ⟨rfl, rfl⟩
  have kin : K.In s.heap := e0.mod.kin.keeps fun b o e => (e0.bs b o e).1
  have ccH : H cc = none := (e0.bs cc oc (e0.mod.kin _ _ hcc)).2
  refine ⟨⟨e0.mod, S.kind, rfl, rfl, Nat.le_refl _, fun y z c h1 h2 => (only y c h1).1.trans (only z c h2).1.symm, fun y hy => ?_, fun y c z _ => absurd (show false = true from z) Bool.false_ne_true, fun _ => hd, Around.frames_deeper e0.frames, .inr ⟨rfl, rfl⟩, fun b z => absurd z (noA b), e0.bs, e0.bsz, fun b _ _ => noA b, fun b z => absurd z (noA b), e0.funs, e0.frf⟩,
    rfl, e0.bare, Un.kept hk, ⟨_, hns, fun i y v h1 h2 h3 => ?_⟩, fun y c h => ?_, e0.hok.fresh (Nat.le_refl _), fun y c h => ?_, fun p hp => absurd (show p ∈ ([] : List (Addr × Obj)) from hp) (by simp), e0.hok.kept hk, ?_⟩
  · have hy : scope.names.lookup y = some .cell ∨ scope.names.lookup y = some .free := hy
    rcases hy with hy | hy
    · exact absurd rfl (S.nocell _ (PySem.mem_of_lookup hy))
    · have e := S.free _ (PySem.mem_of_lookup hy) rfl
      cases e
      exact ⟨cc, rfl⟩
  · have hi : i < vs.length := by
      unfold L2.start at h2
      by_cases hi : i < vs.length
      · exact hi
      · rw [List.getElem?_append_right (by simpa using hi)] at h2
        rw [List.getElem?_replicate] at h2
        split at h2 <;> cases h2
    have ha : vs[i]? = some v := by
      unfold L2.start at h2
      rw [List.getElem?_append_left (by simpa using hi), List.getElem?_map] at h2
      cases e : vs[i]? with
      | none => rw [e] at h2; cases h2
      | some a => rw [e] at h2; cases h2; rfl
    obtain ⟨u, hu, rv⟩ := r.get ha
    have hp : ps[i]? = some y := by
      rw [← S.pre, List.getElem?_take_of_lt (by omega)]; exact h1
    have ndP : ps.Nodup := by rw [← S.pre]; exact S.nd.sublist (List.take_sublist _ _)
    exact ⟨u, rv, .inl ⟨S.par y (List.mem_of_getElem? hp), zip_lookup ndP hp hu⟩⟩
  · rw [(only y c h).2]
    exact ⟨vc, oc, hk _ _ (kin _ _ hcc), hvc⟩
  · rw [(only y c h).2]
    exact ccH
  · unfold L2.start
    show _ = N.length
    rw [List.length_append, List.length_map, List.length_replicate]
    omega
/-- THE RULE: a def whose scope has the free name __class__, by its body -/
theorem fn_sup {CX : CXT} {P : Program} {w : World} {K : PySem.W.Frag} {mg : Str → Option Value} {base : Heap} {k : Nat} {f cc : Addr} {name qual : Str} {params : Arguments} {body : List Stmt} {scope : Scope} {dV kV doc pm cdv ct oc : Value} {an od : Option Addr}
    {osl : Array (Option Value)} {N ps : List Str} {sp : Sp} {occ : Obj} {vc : Option Value} (lk : K.lookup f = some ⟨oc, od, .func (PySem.W.ksFn name qual params body scope dV kV doc pm an cdv ct cc), osl⟩) (hcd : PySem.W.codeIn K cdv qual = true) (hcc : K.lookup cc = some occ) (hvc : occ.data = .cell vc)
    (S : SupScope N ps scope) (len : ∀ vs H Q E, sp vs H Q E → vs.length = ps.length)
    (hbody : ∀ (A : Around) (outer : List Env) (s : Shared) (H : Hp) (vs : List V) (Q : VK) (E : XK) (s1 : Shared), Room k (A.deeper (PySem.W.ksEnv qual scope s.heap.objs.size f cdv cc)) → sp vs H Q E →
      Inv (cxS CX P w K mg base N qual scope f cdv cc A outer s H E) [] (L2.start N vs) H s1 →
      PySem.wpAt (model P w) (A.deeper (PySem.W.ksEnv qual scope s.heap.objs.size f cdv cc)) (.func body (PySem.W.ksEnv qual scope s.heap.objs.size f cdv cc)) (execs body (PySem.W.ksEnv qual scope s.heap.objs.size f cdv cc))
        (SP (cxS CX P w K mg base N qual scope f cdv cc A outer s H E) [] { nx := fun _ H' => Q .non H', rt := Q }) (cxS CX P w K mg base N qual scope f cdv cc A outer s H E).xe s1) :
    FnOk P w K mg base CX (k + 1) f (PySem.W.ksFn name qual params body scope dV kV doc pm an cdv ct cc) ps sp := by
  refine ⟨len, fun A outer s H args us vs Q E hr e0 hb r hsp => ?_⟩
  have hl := len _ _ _ _ hsp
  have KX : K.In s.heap := e0.mod.kin.keeps fun b o e => (e0.bs b o e).1
  have lim : s.heap.NoLimit := e0.mod.nolimit.keeps fun b o e => (e0.bs b o e).1
  refine ks_codeAny_call_defAt (fd := PySem.W.ksFn name qual params body scope dV kV doc pm an cdv ct cc) (body := body) (binds := ps.zip us) hr.depth (KX _ _ lk) rfl lim (PySem.W.codeRec_of KX hcd) rfl hb S.nocell
    (fun y hy => S.par _ (List.of_mem_zip (show (y.1, y.2) ∈ ps.zip us from hy)).1) (fun h₁ hns hk₁ => ?_) S.co S.gen S.kind
  have I : Inv (cxS CX P w K mg base N qual scope f cdv cc A outer s H E) [] (L2.start N vs) H { s with heap := h₁, toks := s.toks + (ps.zip us).length } := inv_sup S hr.hd e0 hl r hcc hvc hns hk₁
  refine ks_wpAt_mono (hbody A outer s H vs Q E _ (hr.deeper _) hsp I) (fun fl s' hs => ?_) fun e s' hs => hs
  have fin : ∀ {σ' : L2.St} {H' : Hp} {v : V} {u : Value}, Inv (cxS CX P w K mg base N qual scope f cdv cc A outer s H E) [] σ' H' s' → RelV v u → Q v H' → CE outer P w H s Q u s' :=
    fun {σ' H' v u} J rv q => ⟨v, H', J.os, J.bare, J.base, J.hok, rv, q⟩
  cases fl with
  | ret u =>
    obtain ⟨v, σ', H', J, rv, q⟩ := hs
    exact fin J rv q
  | next =>
    obtain ⟨σ', H', J, q⟩ := hs
    exact fin (v := V.non) (u := Value.none) J rfl q
  | brk =>
    obtain ⟨_, _, _, q⟩ := hs
    exact False.elim q
  | cont =>
    obtain ⟨_, _, _, q⟩ := hs
    exact False.elim q
end LW
namespace LW
open PySem PySem.Spec PyProof.Rows L2
/-! ### enumerate(list, start=c) -/
/-- the list at a as it stands at each turn, each item in a new pair behind c + i -/
def IteC (K : PySem.W.Frag) (c : Int) (a : Addr) : It where
  go := fun i H => ∃ (xs : List V) (x : V), SqL K H a xs ∧ xs[i]? = some x
  yld := fun i H v H' => ∃ T x, v = .ref T ∧ H T = none ∧ H' = upd H T (.tup [.int (c + (i : Nat)), x]) ∧ ∀ xs, SqL K H a xs → xs[i]? = some x
  stop := fun i H => ∃ xs : List V, SqL K H a xs ∧ xs.length ≤ i
theorem apart_cls {h : Heap} {a b : Addr} {o o' : Obj} (e : h.get? a = some o) (e' : h.get? b = some o') (n : o.cls ≠ o'.cls) : a ≠ b := by
  intro z
  subst z
  rw [e] at e'
  cases e'
  exact n rfl
theorem turn_enumC {P : Program} {w : World} {K : PySem.W.Frag} {elts : List Expr} {kk : Nat} {tp : Pos} (c : Int) (a e it : Addr) :
    Turn P w K (.Tuple elts kk tp) (IteC K c a) [e, it] e (fun i h => (∃ old, IsEnum h e it (c + (i : Nat)) old) ∧ h.IsListIter it a i ∧ e ≠ it) where
  mem := by simp
  obj := by
    rintro i h ⟨⟨old, he⟩, ⟨o, ho, hc, hd⟩, _⟩ b hb
    have e' : b = e ∨ b = it := by simpa using hb
    rcases e' with z | z
    · subst z
      exact ⟨_, he, fun v q => nomatch q⟩
    · subst z
      exact ⟨o, ho, fun v q => by rw [hd] at q; cases q⟩
  keep := by
    rintro i h h' ⟨⟨old, he⟩, hi, hne⟩ k
    exact ⟨⟨old, k e (by simp) _ he⟩, hi.at fun o q => k it (by simp) o q, hne⟩
  item := by
    intro X hP hw hK hc i pins s σ H E I hf st hg
    subst hP
    subst hw
    subst hK
    obtain ⟨⟨old, he⟩, hit, hne⟩ := st
    obtain ⟨xs, x, hq, hx⟩ := hg
    obtain ⟨its, rv, p, hz⟩ := I.list hq
    obtain ⟨u, hu, ru⟩ := rv.get hx
    have hel := Heap.lt_size he
    have hil : it < s.heap.objs.size := by
      obtain ⟨_, q, _⟩ := hit
      exact Heap.lt_size q
    have hl := p.isList
    have nli : a ≠ it := by
      obtain ⟨o1, q1, c1, _⟩ := hit
      obtain ⟨o2, q2, c2, _⟩ := hl
      exact apart_cls q2 q1 (by rw [c1, c2]; decide)
    have nel : e ≠ a := by
      obtain ⟨o2, q2, c2, _⟩ := hl
      exact apart_cls he q2 (by rw [c2]; show Value.type "enumerate" ≠ Value.type "list"; decide)
    have D := Draws.list (prog := X.prog) (w := X.w) (A := X.A.in1) (I.ok.hd hc) it a nli its.toArray
    have hlt : i < its.toArray.size := by
      have := (List.getElem?_eq_some_iff.mp hu).1
      simpa using this
    refine wpAny_pyNext_enum_itemC D he ⟨hit, hl⟩ hlt hne (by simp [hne, nel]) ?_
    intro y h' tk hy ho hst hT hsz hk
    have ey : y = u := by
      have h1 : its.toArray[i]? = some y := hy
      rw [List.getElem?_toArray, hu] at h1
      exact (Option.some.inj h1).symm
    subst ey
    refine ⟨_, rfl, wpAny_letOwnedTupleGo_enum (s := { s with heap := h', toks := tk + 1 }) ho ?_⟩
    intro h2 he2 sb
    have hT2 : h2.get? s.heap.objs.size = some { cls := .type "tuple", data := .seq #[.int (c + (i : Nat)) tk, y] } := (sb.2 _ (Nat.ne_of_gt hel)).trans hT
    have new : ObjOk X.prog X.w (upd H s.heap.objs.size (.tup [.int (c + (i : Nat)), x])) h2 s.heap.objs.size (.tup [.int (c + (i : Nat)), x]) :=
      ⟨by show 2 ≤ sizeLine; decide, [.int (c + (i : Nat)) tk, y], .cons ⟨_, rfl⟩ (.cons ru .nil), ⟨_, hT2, rfl, _, rfl⟩⟩
    have I1 := I.turnedNew (ch := [e, it]) (h' := h2) (t' := tk + 1) (T := s.heap.objs.size) (ob := .tup [.int (c + (i : Nat)), x])
      (fun b ob hb q => (sb.2 b (fun z => hb (by simp [z]))).trans (hk b ob (fun z => hb (by simp [z])) (fun z => hb (by simp [z])) q)) hf (Nat.le_refl _) new
    refine ⟨.ref s.heap.objs.size, _, I1, rfl, ⟨_, x, rfl, I.hok.fresh (Nat.le_refl _), rfl, ?_⟩, ⟨⟨y, ?_⟩, hst.1.at fun o q => (sb.2 it (Ne.symm hne)).trans q, hne⟩, ?_⟩
    · intro ys hy
      rw [I.list_inj hy hq]
      exact hx
    · have e1 : c + ((i + 1 : Nat) : Int) = c + (i : Int) + 1 := by omega
      rw [e1]
      exact he2
    · intro b hb
      have e' : b = e ∨ b = it := by simpa using hb
      have hb' : b < s.heap.objs.size := by
        rcases e' with z | z
        · rw [z]; exact hel
        · rw [z]; exact hil
      rw [upd_ne (Nat.ne_of_lt hb')]
      exact (hf b hb).1
  done := by
    intro X hP hw hK hc i pins s σ H E I hf st hg
    subst hP
    subst hw
    subst hK
    obtain ⟨⟨old, he⟩, hit, hne⟩ := st
    obtain ⟨xs, hq, hx⟩ := hg
    obtain ⟨its, rv, p, hz⟩ := I.list hq
    have hl := p.isList
    have nli : a ≠ it := by
      obtain ⟨o1, q1, c1, _⟩ := hit
      obtain ⟨o2, q2, c2, _⟩ := hl
      exact apart_cls q2 q1 (by rw [c1, c2]; decide)
    obtain ⟨f0, f1, f2, f3, f4, f5⟩ := hf it (by simp)
    have len := rv.length
    have hTy : s.TypeIs (.ref e) "enumerate" := ⟨_, he, rfl⟩
    unfold pyNext
    refine wpAny_bind (wpAny_attempt (wpAny_callSpecial?_slot (name := Str.ofString "__next__") hTy F.slot_enumerate_next (wpAny_call_entry F.slot_enumerate_next hTy F.entry_enumerate_next ?_ (F.args_enumerate_next_1 _))))
    show wpAny _ _ (field (.ref e) 2 >>= _) _ _ _
    refine wpAny_bind (wpAny_field he rfl (x := .ref it) rfl ?_)
    refine wpAny_bind (wpAny_nextOf_list_end (I.ok.hd hc) hit hl (by simp; omega) ?_)
    rintro h' x he' ⟨o, ho, hcl⟩
    refine wpAny_bind (wpAny_isInstance (T := "StopIteration") (b := true) ⟨o, ho, hcl⟩ isSubtype_stop ?_)
    exact wpAny_pure ⟨rfl, I.turned (t' := s.toks) (fun b o hb q => he' b o hb q) f0 f1 f3 f4 f5⟩
  self := by
    rintro A i s Q E ⟨⟨_, he⟩, _⟩ h
    exact wpAny_pyIter_enum he h
theorem callWith_tyKw {M : Model} {A : Around} {E : Value → Shared → Prop} {s : Shared} {env : Env} {pos : Pos} {T : String} {e : Expr} {rest : List Expr} {kws : List Keyword} {Q : Value → Shared → Prop}
    (h : wpAny M A (spliced (backTo pos (starEach (e :: rest) env))) (fun vs s1 => wpAny M A (evalAll ((backToKw pos (keywordEach kws env)).map (·.2)))
      (fun kvs s2 => wpAny M A (call (.type T) vs (((backToKw pos (keywordEach kws env)).filterMap (·.1)).zip kvs)) Q E s2) E s1) E s)
    (he : backTo pos (starEach (e :: rest) env) = (false, eval e env) :: backTo pos (starEach rest env) := by rfl)
    (hp : (backTo pos (starEach (e :: rest) env)).any (·.1) = false := by rfl)
    (hall : (backToKw pos (keywordEach kws env)).all (·.1.isSome) = true := by rfl)
    (hkw : (backToKw pos (keywordEach kws env)).any (·.1.isNone) = false := by rfl) :
    wpAny M A (callWith pos (.type T) [] (backTo pos (starEach (e :: rest) env)) (backToKw pos (keywordEach kws env))) Q E s := by
  have g : wpAny M A (evalArgs (.type T) true (backTo pos (starEach (e :: rest) env)) (backToKw pos (keywordEach kws env))) (fun a s1 => wpAny M A (call (.type T) ([] ++ a.pos) a.kw) Q E s1) E s := by
    rw [he] at h ⊢
    exact evalArgs_kwB hall h
  unfold callWith
  refine wpAny_bind (wpAny_holding (wpAny_mono g (fun a s1 h1 => wpAny_bind (wpAny_standAt ?_)) fun _ _ z => z))
  simp only [hp, hkw, Bool.or_false]
  refine wpAny_bind (wpAny_pure ?_)
  exact wpAny_bind (wpAny_mono h1 (fun r s2 hr => wpAny_bind (wpAny_holding (wpAny_point (wpAny_pure hr)))) fun _ _ z => z)
def iEnumC (K : PySem.W.Frag) (ta tk : TA) : TI := fun σ H R => ta σ H fun vs H1 => tk σ H1 fun ks H2 => ∃ (a : Addr) (c : Int) (xs : List V), vs = [.ref a] ∧ ks = [.int c] ∧ -(2 ^ 63) ≤ c ∧ c < 2 ^ 63 ∧ SqL K H2 a xs ∧ R (IteC K c a) H2
theorem pi_enumC {X : Cx} {e se : Expr} {ta tk : TA} {p pos kp tp : Pos} {elts : List Expr} {kk : Nat} (hg : Gl X "enumerate") (hm : X.mg "enumerate" = none) (ha : PA X [e] ta) (hk : PK X [⟨some "start", se, kp⟩] tk)
    (hs : starEach [e] X.env = [(false, eval e X.env)] := by rfl) :
    PI X (.Tuple elts kk tp) (.Call (.Name "enumerate" p) [e] [⟨some "start", se, kp⟩] pos) (iEnumC X.K ta tk) := by
  constructor
  intro pins s σ H R I h
  refine wpAny_Call_Name_kw (ld_blt I hg hm boot_enumerate (callWith_tyKw (kws := [⟨some "start", se, kp⟩]) (thn (ha.run pos pins s σ H _ I h) ?_) (by rw [hs]; rfl) (by rw [hs]; rfl)))
  rintro us s1 ⟨vs, H1, I1, r1, q1⟩
  refine thn (hk.run pos pins s1 σ H1 _ I1 q1) ?_
  rintro ws s2 ⟨ks, H2, I2, r2, a, c, xs, ea, ec, c0, c1, hq, q⟩
  subst ea
  subst ec
  cases r1 with
  | cons r rr =>
    cases rr
    cases r
    cases r2 with
    | cons r' rr' =>
      cases rr'
      obtain ⟨t, et⟩ := r'
      subst et
      obtain ⟨its, rv, p', hz⟩ := I2.list hq
      show wpAny _ _ (call (.type "enumerate") [.ref a] [(Str.ofString "start", .int c t)]) _ _ _
      refine enum_begins_start (begins_list a its.toArray) p'.isList c0 c1 ?_
      intro h' he hit hsz hkp
      have hiter : h'.IsListIter s2.heap.objs.size a 0 := ⟨_, hit, rfl, rfl⟩
      refine wpAny_pyIter_enum he ?_
      have I3 : Inv X pins σ H2 { s2 with heap := h' } := I2.kept (t' := s2.toks) hkp
      refine ⟨s2.heap.objs.size + 1, [s2.heap.objs.size + 1, s2.heap.objs.size], _, _, H2, rfl, I3, turn_enumC c a (s2.heap.objs.size + 1) s2.heap.objs.size, ⟨⟨.none, ?_⟩, hiter, Nat.succ_ne_self _⟩, ?_, q⟩
      · rw [show c + ((0 : Nat) : Int) = c by omega]
        exact he
      · intro b hb
        have e' : b = s2.heap.objs.size + 1 ∨ b = s2.heap.objs.size := by simpa using hb
        have hle : s2.heap.objs.size ≤ b := by
          rcases e' with z | z
          · rw [z]; exact Nat.le_add_right _ _
          · rw [z]; exact Nat.le_refl _
        exact I2.fpOk hle (I2.hok.fresh hle)
theorem walk_enumC {K : PySem.W.Frag} {c : Int} {a : Addr} {xs : List V} : Walk (IteC K c a) xs.length (fun H => SqL K H a xs) (YPair (fun i => some (.int (c + (i : Nat)))) (fun i => xs[i]?)) := by
  refine ⟨fun i _ hi q => ⟨xs, xs[i], q, by simp [hi]⟩, fun _ q => ⟨xs, q, Nat.le_refl _⟩, ?_⟩
  rintro i H v H' _ q ⟨T, x, h1, h2, h3, h4⟩
  exact ⟨T, .int (c + (i : Nat)), x, h1, h2, h3, rfl, h4 xs q⟩
end LW
namespace LW
open PySem PySem.Spec PyProof.Rows L2 GxR
/-- sixteen hexadecimal digits -/
def isAddr (t : Str) : Bool := decide (t.length = 16) && t.cps.toList.all fun c => decide (c ∈ hexDigits)
theorem digits_eq : (Str.ofString "0123456789abcdef").cps.toList = hexDigits := by decide +kernel
/-- a def of the text whose code object stands at c -/
structure FunC (K : PySem.W.Frag) (x qual : Str) (st : Stmt) (f : Addr) (fd : FuncData) (c : Addr) : Prop where
  ex : ∃ (oc : Value) (od : Option Addr) (kV doc pm : Value) (an : Option Addr) (ct : Value) (osl : Array (Option Value)),
    fd = PySem.W.fnOf x qual (defArgs st) (defBody st) (defScope st) .none kV doc pm an (.ref c) ct ∧ K.lookup f = some ⟨oc, od, .func fd, osl⟩ ∧ PySem.W.codeIn K (.ref c) qual = true
  kp : PySem.W.keepIn K (.ref f) = true
theorem FunC.ok {P : Program} {w : World} {K : PySem.W.Frag} {mg : Str → Option Value} {base : Heap} {x qual : Str} {st : Stmt} {f c : Addr} {fd : FuncData} {N ps : List Str} {k : Nat} {sp : Sp} (F : FunC K x qual st f fd c)
    (S : FnScope N ps (defScope st)) (len : ∀ vs H Q E, sp vs H Q E → vs.length = ps.length)
    (body : ∀ (A : Around) (outer : List Env) (s : Shared) (H : Hp) (vs : List V) (Q : VK) (E : XK), Room k (A.deeper (envOfC qual (defScope st) s.heap.objs.size f (.ref c))) → sp vs H Q E →
      ∃ t, PSs (cxOf CX0 P w K mg base N qual (defScope st) f (.ref c) A outer s H E).nox (defBody st) t ∧ t { nx := fun _ H' => Q .non H', rt := Q } (L2.start N vs) H) :
    FnOk P w K mg base CX0 (k + 1) f fd ps sp := by
  obtain ⟨oc, od, kV, doc, pm, an, ct, osl, e, lk, hcd⟩ := F.ex
  subst e
  refine fn_of lk hcd S len fun A outer s H vs Q E hr hsp => ?_
  obtain ⟨t, h, q⟩ := body A outer s H vs Q E hr hsp
  exact ⟨t, h.nox, q⟩
theorem no_free {ns : List (Str × NameKind)} {R : Str × NameKind → Prop} (h : ∀ y ∈ ns, y.2 ≠ .free) : ∀ y ∈ ns, y.2 = .free → R y := fun y hy e => absurd e (h y hy)
/-- a def of the module by its name -/
structure DefAt (K : PySem.W.Frag) (mg : Str → Option Value) (x : Str) (st : Stmt) (ps : List Str) (f : Addr) (fd : FuncData) : Prop where
  fn : Fun K x x st f fd
  at_ : mg x = some (.ref f)
  bd : Binds K fd ps []
theorem tyes {σ : L2.St} {H : Hp} {A B : Hp → Prop} (h : A H) : tYes σ H fun b H3 => if b = true then A H3 else B H3 := by
  show (if true = true then A H else B H)
  rw [if_pos rfl]
  exact h
theorem same_upd {H : Hp} {p : Addr} {o : HO} (h : H p = none) : Same H (upd H p o) := fun b x e => by
  rw [upd_ne (ne_of_none e h)]
  exact e
theorem nat_of {v m : Int} (h0 : 0 ≤ v) (h1 : v < m) : ∃ j : Nat, v = (j : Int) ∧ (j : Int) < m := ⟨v.toNat, by omega, by omega⟩
/-! ### the law's own state: a pair of addresses -/
def LS (H : Hp) (a c : Addr) (n : Int) (cs : List Int) : Prop :=
  H a = some (.lst [.int n, .ref c]) ∧ H c = some (.lst (cs.map V.int)) ∧ a ≠ c ∧ 0 < cs.length ∧ cs.length ≤ 63 ∧ (∀ z ∈ cs, 0 ≤ z) ∧ 0 ≤ n
def SL (H : Hp) (a c : Addr) : Prop := ∃ n cs, LS H a c n cs
theorem SL.eq {H H' : Hp} {a c : Addr} (s : SL H a c) (ea : H' a = H a) (ec : H' c = H c) : SL H' a c := by
  obtain ⟨n, cs, h1, h2, r⟩ := s
  exact ⟨n, cs, by rw [ea]; exact h1, by rw [ec]; exact h2, r⟩
theorem SL.same {H H' : Hp} {a c : Addr} (s : SL H a c) (e : Same H H') : SL H' a c := by
  obtain ⟨n, cs, h1, h2, r⟩ := s
  exact ⟨n, cs, e _ _ h1, e _ _ h2, r⟩
theorem SL.ne {H : Hp} {a c x : Addr} (s : SL H a c) (n : H x = none) : x ≠ a ∧ x ≠ c := by
  obtain ⟨_, cs, h1, h2, r⟩ := s
  exact ⟨(ne_of_none h1 n).symm, (ne_of_none h2 n).symm⟩
theorem SL.tab {H : Hp} {a c B : Addr} (s : SL H a c) (t : TabG H B) : B ≠ a ∧ B ≠ c := by
  obtain ⟨_, cs, h1, h2, r⟩ := s
  obtain ⟨ps, e, _⟩ := t
  exact ⟨ne_of e h1 (by intro q; cases q), ne_of e h2 (by intro q; cases q)⟩
theorem tab_same {H H' : Hp} {B : Addr} (t : TabG H B) (e : Same H H') : TabG H' B := by
  obtain ⟨ps, h, r⟩ := t
  exact ⟨ps, e _ _ h, r⟩
theorem tab_eq {H H' : Hp} {B : Addr} (t : TabG H B) (e : H' B = H B) : TabG H' B := by
  obtain ⟨ps, h, r⟩ := t
  exact ⟨ps, by rw [e]; exact h, r⟩
def spState (K : PySem.W.Frag) : Sp := fun vs H Q _ => ∃ (l : Addr) (ns : List Int), vs = [.ref l] ∧ SqL K H l (ns.map V.int) ∧ ns.length ≤ 63 ∧
  ∀ (a c : Addr) (H' : Hp), H a = none → H c = none → Same H H' → SL H' a c → Q (.ref a) H'
/-- a draw: 0 .. m - 1 -/
def spTake : Sp := fun vs H Q _ => ∃ (a c : Addr) (m : Int), vs = [.ref a, .int m] ∧ SL H a c ∧ 1 ≤ m ∧ m < 1000000 ∧
  ∀ (v : Int) (H' : Hp), 0 ≤ v → v < m → (∀ b, b ≠ a → b ≠ c → H' b = H b) → SL H' a c → Q (.int v) H'
theorem at2_0 {x y : V} : atI [x, y] 0 = some x := rfl
theorem at2_1 {x y : V} : atI [x, y] 1 = some y := rfl
/-! ### as it was, but for tables of code that may have grown -/
structure Gr (H H' : Hp) : Prop where
  keep : ∀ b o, H b = some o → (∀ ps, o ≠ .tbl ps) → H' b = some o
  tab : ∀ b, TabG H b → TabG H' b
  free : ∀ b, H' b = none → H b = none
theorem Gr.refl (H : Hp) : Gr H H := ⟨fun _ _ e _ => e, fun _ t => t, fun _ n => n⟩
theorem Gr.trans {H H1 H2 : Hp} (g : Gr H H1) (h : Gr H1 H2) : Gr H H2 := ⟨fun b o e n => h.keep b o (g.keep b o e n) n, fun b t => h.tab b (g.tab b t), fun b n => g.free b (h.free b n)⟩
theorem Gr.of_same {H H' : Hp} (s : Same H H') : Gr H H' := ⟨fun b o e _ => s b o e, fun b t => tab_same t s, fun b n => by
  cases e : H b with
  | none => rfl
  | some o => rw [s b o e] at n; cases n⟩
theorem Gr.of_tab {H H' : Hp} {B : Addr} (tb : TabG H B) (t : Tabbed B H H') : Gr H H' := ⟨fun b o e n => by
  obtain ⟨ps, h, _⟩ := tb
  rw [t.2 b (fun z => by rw [z, h] at e; cases e; exact n ps rfl)]
  exact e, fun b u => by
    by_cases hb : b = B
    · rw [hb]; exact t.1
    · exact tab_eq u (t.2 b hb), fun b n => by
    by_cases hb : b = B
    · obtain ⟨ps, h, _⟩ := t.1
      rw [hb, h] at n; cases n
    · rw [← t.2 b hb]; exact n⟩
theorem Gr.upd {H H' : Hp} {p : Addr} {o : HO} (g : Gr H H') (n : H' p = none) : Gr H (upd H' p o) := g.trans (.of_same (same_upd n))
theorem Gr.lst {H H' : Hp} {b : Addr} {xs : List V} (g : Gr H H') (e : H b = some (.lst xs)) : H' b = some (.lst xs) := g.keep b _ e (fun ps z => nomatch z)
theorem Gr.tup {H H' : Hp} {b : Addr} {xs : List V} (g : Gr H H') (e : H b = some (.tup xs)) : H' b = some (.tup xs) := g.keep b _ e (fun ps z => nomatch z)
theorem Gr.SL {H H' : Hp} {a c : Addr} (g : Gr H H') (s : SL H a c) : SL H' a c := by
  obtain ⟨n, cs, h1, h2, r⟩ := s
  exact ⟨n, cs, g.lst h1, g.lst h2, r⟩
/-- a promise without a way out is one of the calm kind -/
theorem calm_of {P : Program} {w : World} {K : PySem.W.Frag} {mg : Str → Option Value} {base : Heap} {k : Nat} {f : Addr} {fd : FuncData} {ps : List Str} {sp sp' : Sp} (F : FnOk P w K mg base (L2.CX P w) k f fd ps sp)
    (h : ∀ vs H Q E, sp' vs H Q E → sp vs H Q (fun _ _ _ => False)) : FnOk P w K mg base CX0 k f fd ps sp' := by
  refine ⟨fun vs H Q E q => F.len vs H Q _ (h vs H Q E q), fun A outer s H args us vs Q E hr e0 hb r q => codeAny_mono (F.run A outer s H args us vs Q _ hr e0 hb r (h vs H Q E q)) fun res s' hs => ?_⟩
  cases res with
  | ok fl => cases fl <;> exact hs
  | error e =>
    obtain ⟨_, _, _, _, _, _, _, _, _, _, _, _, z⟩ := hs
    exact z.elim
end LW
namespace LW
open PySem PySem.Spec PyProof.Rows L2 GxR
/-- the end of a law's row: all that the head says is at hand -/
theorem walk_gnd {l : PySem.W.OpenLaw} {n k : Nat} {q : Program} {loose : List Str} {XP : (Str → Option Value) → Heap → Prop} {YP : World → Heap → Prop} {d : DefRec} {K : Params → PySem.W.Frag} {CX : World → CXT} {x : Str}
    (hn : l.most = some n) (hn2 : n ≤ sizeLine) (hdf : d.params.defaults = []) (hr : Room k callerA) (hY : ∀ (w : World) (h : Heap), YP w h → (K w.params).In h)
    (F : ∀ (w : World) (s0 : Shared) (mg mb : Str → Option Value) (fa : Addr) (h : Heap), PySem.W.Ground q loose [] XP w s0 mg mb h → YP w h → (K w.params).In h → mg d.name = some (.ref fa) → LamX.LawAtS l w (K w.params) (CX w) k n x mg fa h)
    (hCX : ∀ (w : World) (H : Hp) (s : Shared) (e : Value) (s' : Shared), CX w [] H s (fun _ _ _ => False) e s' → False) :
    PySem.W.WalkO q loose XP YP l.row.toRowW d [] (fun f vs => PySem.call f vs) := by
  refine Att.attach_callB hn hdf ?_
  intro w s0 s1 mg mb fa o pm cd doc a vs ns G Y ho hd hcd hmg hobj hints hlen hbits hg
  have KX := hY w _ Y
  obtain ⟨fd, cs, sp, hT, nT, C, hb, hsp, hF⟩ := F w s0 mg mb fa _ G Y KX hmg
  refine LamX.law_callTs KX G.T.g G.T.b G.T.builtins G.T.nolimit hg hT nT C G.T.bmain hobj hints (Nat.le_trans hlen hn2) hr hF hb ?_ ?_
  · intro H hH hS
    exact hsp H a ns hlen hbits hH hS
  · intro H e s'
    exact hCX w H s1 e s'
/-- a function of the module as the head leaves it -/
theorem def_at {K : PySem.W.Frag} {h : Heap} {mg : Str → Option Value} {x : Str} {st : Stmt} {ps : List Str} {f : Addr} {oc : Value} {od an : Option Addr} {sl : Array (Option Value)} {kV dc pm cd ct : Value}
    (X : K.In h) (G : h.Ns mainGlobals mg) (a : PySem.W.nsIn K mainGlobals x = some (some (.ref f)))
    (l : K.lookup f = some ⟨oc, od, .func (PySem.W.fnOf x x (defArgs st) (defBody st) (defScope st) .none kV dc pm an cd ct), sl⟩)
    (c : PySem.W.codeIn K cd x = true) (k : PySem.W.keepIn K (.ref f) = true)
    (b : ∀ (kV doc pm : Value) (an : Option Addr) (cdv ct : Value) (us : List Value), us.length = ps.length → bindArgs (PySem.W.fnOf x x (defArgs st) (defBody st) (defScope st) .none kV doc pm an cdv ct) ⟨us, []⟩ = pure (ps.zip us)) :
    DefAt K mg x st ps f (PySem.W.fnOf x x (defArgs st) (defBody st) (defScope st) .none kV dc pm an cd ct) :=
  ⟨fun_mk (st := st) l c k, PySem.W.mg_of X G a, (fun_mk (st := st) l c k).binds b⟩
end LW
namespace LW
open PySem PySem.Spec PyProof.Rows L2
/-- a comprehension over pairs, whose parts make nothing -/
theorem lc_pair {J : It} {n : Nat} {G : Hp → Prop} {Y : Nat → Hp → V → Hp → Prop} {K : PySem.W.Frag} (w : Walk J n G Y) {j1 j2 : Nat} {te : TE} {vs : List Nat} {σ : L2.St} {H1 : Hp} {D : Addr} {Qd : Hp → Prop} (f : Nat → V)
    (hn : n < 16000000) (hG : ∀ H, But D H1 H → G H) (hw : ∀ x y, wipe (((wipe σ vs).set j1 (some x)).set j2 (some y)) vs = wipe σ vs)
    (hs : ∀ i x H H', i < n → But D H1 H → Y i H x H' → ∃ t u v, x = .ref t ∧ H' = H ∧ SqT K H t [u, v] ∧ ∀ Q : VK, Q (f i) H → te (((wipe σ vs).set j1 (some u)).set j2 (some v)) H Q)
    (hd : Qd (upd H1 D (.lst ((List.range n).map f)))) :
    ∃ W : Nat → Nat → Hp → Prop, (∃ m, W 0 m (upd H1 D (.lst []))) ∧ ∀ i m H, W i m H →
      (J.stop i H ∧ Qd H) ∨ (J.go i H ∧ ∃ Nx : Hp → Prop, (∀ H', Nx H' → ∃ m', m' < m ∧ W (i + 1) m' H') ∧ ∀ x H', J.yld i H x H' → gTup K 2 (gCons (gName j1) (gCons (gName j2) gNil)) x (wipe σ vs) H' fun σ2 H2 => wipe σ2 vs = wipe σ vs ∧ tYes σ2 H2 fun b H3 =>
        if b = true then te σ2 H3 fun y H4 => ∃ acc, H4 D = some (.lst acc) ∧ acc.length < sizeLine ∧ Nx (upd H4 D (.lst (acc ++ [y]))) else Nx H3) := by
  refine lc_it w (fun i H => H = upd H1 D (.lst ((List.range i).map f))) rfl (fun i H _ e => hG H (by rw [e]; exact But.upd)) ?_ (fun H e => by rw [e]; exact hd)
  rintro i x H H' hi e hy
  have b1 : But D H1 H := by rw [e]; exact But.upd
  obtain ⟨t, u, v, rfl, e2, hT, he⟩ := hs i x H H' hi b1 hy
  subst e2
  have hD : H' D = some (.lst ((List.range i).map f)) := by rw [e, upd_same]
  refine ⟨t, [u, v], rfl, hT, rfl, u, [v], rfl, v, [], rfl, rfl, hw u v, tyes (he _ ⟨_, hD, ?_, ?_⟩)⟩
  · rw [List.length_map, List.length_range]
    exact Nat.lt_trans hi (Nat.lt_trans hn (by decide))
  · rw [List.range_succ, List.map_append, e, upd_upd]
    rfl
end LW
namespace LW
open PySem PySem.Spec PyProof.Rows L2
/-- isinstance(e, c), e the exception that the suite holds, with its dict -/
def rIsD (K : PySem.W.Frag) (D a : Addr) (cls : Value) (d : Option Addr) : List V → Hp → VK → Prop := fun xs H Q => cls = .ref D ∧ ∃ (dd : Addr) (fs : List (Str × V)), d = some dd ∧ H dd = some (.xd fs) ∧
  ∃ (c : V) (cv : Value) (b : Bool), xs = [.ref a, c] ∧ (∀ u, RelV c u → u = cv) ∧ PySem.W.kitOne K (.ref D) cv = some b ∧ Q (.bl b) H
theorem call_isD {X : Cx} {a D : Addr} {oe : Obj} {cls : Value} {d : Option Addr} {pn : List (Addr × Obj)} (C : ExcC X.K D) (hz : Zc cls d oe) (hf : ∃ vs, oe.data = .fields vs) : CallR (X.suite a ((a, oe) :: pn)) (.builtin "isinstance") (rIsD X.K D a cls d) := by
  intro pins s σ H xs us Q I r h
  obtain ⟨rfl, dd, fs, rfl, hdd, c, cv, b, rfl, hcv, e, q⟩ := h
  obtain ⟨cd, hcd, _⟩ := PySem.W.any_some C.hd
  have isc : (PySem.W.clsIn X.K D).isSome = true := by rw [hcd]; rfl
  cases r with
  | cons r1 r2 =>
    cases r2 with
    | cons r3 r4 =>
      cases r4
      cases r1
      have ec := hcv _ r3
      subst ec
      obtain ⟨here, _⟩ := I.pin (a, oe) (List.mem_append_left _ List.mem_cons_self)
      obtain ⟨vs, hv⟩ := hf
      have at_d : ObjOk X.prog X.w H s.heap dd (.xd fs) := I.hok dd _ hdd
      obtain ⟨mA, hns, _⟩ := at_d
      obtain ⟨od, ho, _⟩ := lookIn_ns hns
      have inst : PySem.W.InstAt s.heap a oe D (some od) := by
        refine ⟨here, hz.1, ?_, ?_⟩
        · unfold PySem.W.notCls
          rw [hv]
        · rw [hz.2]
          exact ho
      exact PySem.W.kia_one (PySem.W.kitx_exc isc C.hg C.hk C.hs C.ha C.hn C.ht C.hm) I.kIn inst e (fun z => nomatch z) fun tk => ⟨.bl b, H, I.kept (t' := tk) fun _ _ z => z, rfl, q⟩
end LW
namespace LW
open PySem PySem.Spec PyProof.Rows L2 GxR
open TL (joinL tl tl_join join_eq spl spl_hit spl_miss spl_nil pre map_tl_inj split_spl kind_ok tl_append ext_tl)
/-! ### lines -/
def nl : Str := Str.ofString "\n"
def sp : Str := Str.ofString " "
theorem tl_nl : tl nl = [10] := by decide +kernel
theorem tl_sp : tl sp = [32] := by decide +kernel
theorem kind_nl : nl.cps.all (· < 256) = true := by decide +kernel
theorem kind_sp : sp.cps.all (· < 256) = true := by decide +kernel
theorem pre1 (c x : Nat) (r : List Nat) : pre [c] (x :: r) = decide (x = c) := by
  show (([x] : List Nat) == [c]) = decide (x = c)
  by_cases h : x = c
  · subst h; simp
  · simp [h]
theorem spl_ne (S : List Nat) : ∀ (l : List Nat) (k : Nat) (acc : List Nat), spl S k acc l ≠ []
  | [], k, acc => by rw [spl_nil]; simp
  | c :: r, 0, acc => by
    show (if pre S (c :: r) = true then acc :: spl S (S.length - 1) [] r else spl S 0 (acc ++ [c]) r) ≠ []
    split
    · simp
    · exact spl_ne S r 0 _
  | c :: r, k + 1, acc => spl_ne S r k acc
theorem spl_len (c : Nat) : ∀ (l acc : List Nat), (spl [c] 0 acc l).length ≤ l.length + 1
  | [], acc => by rw [spl_nil]; simp
  | x :: r, acc => by
    by_cases h : pre [c] (x :: r) = true
    · rw [spl_hit h]
      have := spl_len c r []
      simp only [List.length_cons, List.length_nil] at this ⊢
      show (spl [c] 0 [] r).length + 1 ≤ _
      omega
    · rw [spl_miss (eq_false_of_ne_true h)]
      have := spl_len c r (acc ++ [x])
      simp only [List.length_cons]
      omega
theorem spl_part (c : Nat) : ∀ (l acc : List Nat), ∀ p ∈ spl [c] 0 acc l, p.length ≤ acc.length + l.length
  | [], acc, p, h => by
    rw [spl_nil] at h
    rw [List.mem_singleton.mp h]
    simp
  | x :: r, acc, p, h => by
    by_cases e : pre [c] (x :: r) = true
    · rw [spl_hit e] at h
      rcases List.mem_cons.mp h with h | h
      · rw [h]; omega
      · have := spl_part c r [] p h
        simp only [List.length_cons, List.length_nil] at this ⊢
        omega
    · rw [spl_miss (eq_false_of_ne_true e)] at h
      have := spl_part c r (acc ++ [x]) p h
      simp only [List.length_append, List.length_cons, List.length_nil] at this ⊢
      omega
/-- without the sign: one part -/
theorem spl_no (c : Nat) : ∀ (l acc : List Nat), c ∉ l → spl [c] 0 acc l = [acc ++ l]
  | [], acc, _ => by rw [spl_nil]; simp
  | x :: r, acc, h => by
    have hx : pre [c] (x :: r) = false := by rw [pre1]; exact decide_eq_false fun e => h (by rw [e]; exact List.mem_cons_self)
    rw [spl_miss hx, spl_no c r (acc ++ [x]) fun m => h (List.mem_cons_of_mem _ m)]
    simp
/-- at the first sign -/
theorem spl_at1 (c : Nat) : ∀ (a acc b : List Nat), c ∉ a → spl [c] 0 acc (a ++ c :: b) = (acc ++ a) :: spl [c] 0 [] b
  | [], acc, b, _ => by
    have hx : pre [c] (c :: b) = true := by rw [pre1]; exact decide_eq_true rfl
    rw [List.nil_append, spl_hit hx, List.append_nil]
    rfl
  | x :: r, acc, b, h => by
    have hx : pre [c] (x :: (r ++ c :: b)) = false := by rw [pre1]; exact decide_eq_false fun e => h (by rw [e]; exact List.mem_cons_self)
    rw [List.cons_append, spl_miss hx, spl_at1 c r (acc ++ [x]) b fun m => h (List.mem_cons_of_mem _ m)]
    simp
def lns (t : Str) : List Str := Txt.split t nl
def wds (l : Str) : List Str := Txt.split l sp
theorem lns_tl (t : Str) : (lns t).map tl = spl [10] 0 [] (tl t) := by
  unfold lns
  rw [split_spl _ nl (by rw [tl_nl]; simp) (kind_ok kind_nl), tl_nl]
theorem wds_tl (t : Str) : (wds t).map tl = spl [32] 0 [] (tl t) := by
  unfold wds
  rw [split_spl _ sp (by rw [tl_sp]; simp) (kind_ok kind_sp), tl_sp]
theorem lns_ne (t : Str) : lns t ≠ [] := by
  intro h
  have := lns_tl t
  rw [h] at this
  exact spl_ne _ _ _ _ this.symm
theorem wds_ne (t : Str) : wds t ≠ [] := by
  intro h
  have := wds_tl t
  rw [h] at this
  exact spl_ne _ _ _ _ this.symm
theorem lns_len (t : Str) : (lns t).length ≤ t.length + 1 := by
  have h := congrArg List.length (lns_tl t)
  rw [List.length_map] at h
  have := spl_len 10 (tl t) []
  rw [h, TL.len_tl]
  exact this
theorem lns_mem {t l : Str} (h : l ∈ lns t) : l.length ≤ t.length := by
  have m : tl l ∈ spl [10] 0 [] (tl t) := by rw [← lns_tl]; exact List.mem_map_of_mem h
  have := spl_part 10 (tl t) [] _ m
  rw [TL.len_tl, TL.len_tl]
  simpa using this
theorem wds_mem {t l : Str} (h : l ∈ wds t) : l.length ≤ t.length := by
  have m : tl l ∈ spl [32] 0 [] (tl t) := by rw [← wds_tl]; exact List.mem_map_of_mem h
  have := spl_part 32 (tl t) [] _ m
  rw [TL.len_tl, TL.len_tl]
  simpa using this
/-- a line as a name and an address -/
def nam (l : Str) : Str := (Txt.partition l sp).1
def adr (l : Str) : Str := (Txt.partition l sp).2.2
theorem split_at (x : List Nat) (h : 32 ∈ x) : ∃ a b, x = a ++ 32 :: b ∧ 32 ∉ a := by
  induction x with
  | nil => simp at h
  | cons c r ih =>
    by_cases e : c = 32
    · exact ⟨[], r, by rw [e]; rfl, by simp⟩
    · have hr : 32 ∈ r := by
        rcases List.mem_cons.mp h with h | h
        · exact absurd h.symm e
        · exact h
      obtain ⟨a, b, h1, h2⟩ := ih hr
      exact ⟨c :: a, b, by rw [h1]; rfl, fun m => by
        rcases List.mem_cons.mp m with m | m
        · exact e m.symm
        · exact h2 m⟩
theorem addr_no {t : Str} (h : isAddr t = true) : 32 ∉ tl t ∧ 10 ∉ tl t ∧ t.length = 16 := by
  unfold isAddr at h
  rw [Bool.and_eq_true] at h
  have key : ∀ c ∈ tl t, c ∈ hexDigits := fun c hc => of_decide_eq_true (List.all_eq_true.mp h.2 c hc)
  exact ⟨fun m => absurd (key _ m) (by decide), fun m => absurd (key _ m) (by decide), of_decide_eq_true h.1⟩
theorem addr_empty : isAddr Str.empty = false := by decide +kernel
/-- two words are the name and the address; otherwise the address is none -/
theorem words_of (l : Str) : (wds l = [nam l, adr l]) ∨ ((wds l).length ≠ 2 ∧ isAddr (adr l) = false) := by
  by_cases h : 32 ∈ tl l
  · obtain ⟨a, b, e, ha⟩ := split_at _ h
    have el : l = (⟨a.toArray⟩ : Str) ++ sp ++ (⟨b.toArray⟩ : Str) := by
      apply ext_tl
      rw [tl_append, tl_append, tl_sp]
      show _ = (a ++ [32]) ++ b
      rw [e]
      simp
    have ep : Txt.partition l sp = (⟨a.toArray⟩, sp, ⟨b.toArray⟩) := by
      rw [el]
      exact TL.partition_app tl_sp (by show 32 ∉ a; exact ha)
    have en : nam l = ⟨a.toArray⟩ := by unfold nam; rw [ep]
    have ea : adr l = ⟨b.toArray⟩ := by unfold adr; rw [ep]
    have ew := wds_tl l
    rw [e, spl_at1 32 a [] b ha] at ew
    by_cases hb : 32 ∈ b
    · right
      obtain ⟨a2, b2, e2, ha2⟩ := split_at _ hb
      constructor
      · intro hl
        have hl2 := congrArg List.length ew
        rw [List.length_map, hl, e2, spl_at1 32 a2 [] b2 ha2] at hl2
        simp only [List.length_cons] at hl2
        have := spl_ne [32] b2 0 []
        cases hs : spl [32] 0 [] b2 with
        | nil => exact this hs
        | cons _ _ => rw [hs] at hl2; simp at hl2
      · rw [ea]
        cases hh : isAddr (⟨b.toArray⟩ : Str) with
        | false => rfl
        | true => exact absurd (show 32 ∈ tl (⟨b.toArray⟩ : Str) from hb) (addr_no hh).1
    · left
      rw [spl_no 32 b [] hb] at ew
      refine map_tl_inj ?_
      rw [ew, en, ea]
      simp [tl]
  · right
    have ep : Txt.partition l sp = (l, Str.empty, Str.empty) := TL.partition_none tl_sp h
    have ew := wds_tl l
    rw [spl_no 32 _ [] h] at ew
    refine ⟨fun hl => ?_, ?_⟩
    · have := congrArg List.length ew
      rw [List.length_map, hl] at this
      simp at this
    · unfold adr
      rw [ep]
      exact addr_empty
/-! ### faults -/
def letters : List Nat := [97, 98, 99, 100, 101, 102, 103, 104, 105, 106, 107, 108, 109, 110, 111, 112, 113, 114, 115, 116, 117, 118, 119, 120, 121, 122]
theorem letters_eq : (Str.ofString "abcdefghijklmnopqrstuvwxyz").cps.toList = letters := by decide +kernel
def isPlat (t : Str) : Bool := (decide (1 ≤ t.length) && decide (t.length ≤ 10)) && t.cps.toList.all fun c => decide (c ∈ letters)
def word (b : Bool) : Str := if b then "bundle" else "image"
def mid (ls : List Str) : List Str := (ls.drop 1).dropLast
theorem mid_len (ls : List Str) : (mid ls).length = ls.length - 2 := by
  unfold mid
  rw [List.length_dropLast, List.length_drop]
  omega
/-- line i (from 0) of those between is not as it must be -/
def bad (b : Bool) (ms : List Str) (i : Nat) : Bool :=
  if b then decide (nam (ms.getD i "") ∈ (ms.take i).map nam) || !isPlat (nam (ms.getD i "")) || !isAddr (adr (ms.getD i "")) else !isAddr (ms.getD i "")
def behN (w : Str) (ls : List Str) : Option Nat :=
  if ls.head? ≠ some w then some 0 else if ls.getLast? ≠ some ("" : Str) then some (ls.length - 1) else if 52 < ls.length then some 51 else none
def faultN (b : Bool) (ls : List Str) : Option Nat :=
  match behN (word b) ls with
  | some k => some k
  | none => if b = true ∧ ls.length = 2 then some 1 else ((List.range (ls.length - 2)).find? (bad b (mid ls))).map (· + 1)
theorem find_hit {p : Nat → Bool} {n i : Nat} (hi : i < n) (h1 : ∀ j, j < i → p j = false) (h2 : p i = true) : (List.range n).find? p = some i := by
  rw [List.find?_range_eq_some]
  exact ⟨h2, List.mem_range.mpr hi, fun j hj => by rw [h1 j hj]; rfl⟩
theorem find_miss {p : Nat → Bool} {n : Nat} (h1 : ∀ j, j < n → p j = false) : (List.range n).find? p = none := by
  rw [List.find?_eq_none]
  intro j hj
  rw [h1 j (List.mem_range.mp hj)]
  exact Bool.false_ne_true
end LW
namespace LW
open PySem PySem.Spec PyProof.Rows L2 GxR
open TL (joinL tl tl_join join_eq tl_append ext_tl)
theorem tl_empty : tl (Str.ofString "") = [] := by decide +kernel
theorem joinL_nil : ∀ l : List (List Nat), joinL [] l = l.flatten
  | [] => rfl
  | [p] => by simp [joinL]
  | p :: q :: r => by
    show p ++ ([] ++ joinL [] (q :: r)) = _
    rw [joinL_nil (q :: r)]
    simp
theorem joinL_end (c : Nat) : ∀ l : List (List Nat), joinL [c] (l ++ [[]]) = (l.map (· ++ [c])).flatten
  | [] => by simp [joinL]
  | [p] => by
    show p ++ ([c] ++ joinL [c] [[]]) = _
    simp [joinL]
  | p :: q :: r => by
    show p ++ ([c] ++ joinL [c] ((q :: r) ++ [[]])) = _
    rw [joinL_end c (q :: r)]
    simp
/-- one line of a text -/
def lin (l : Str) : Str := Str.empty ++ l ++ nl
theorem tl_lin (l : Str) : tl (lin l) = tl l ++ [10] := by
  unfold lin
  rw [tl_append, tl_append, tl_nl]
  rfl
theorem lin_len (l : Str) : (lin l).length = l.length + 1 := by
  rw [TL.len_tl, TL.len_tl, tl_lin]
  simp
def textOf (ls : List Str) : Str := Txt.join (Str.ofString "") (ls.map lin)
theorem textOf_tl (ls : List Str) : tl (textOf ls) = ((ls.map tl).map (· ++ [10])).flatten := by
  unfold textOf
  rw [join_eq, tl_join, tl_empty, joinL_nil, List.map_map, List.map_map]
  congr 1
  apply List.map_congr_left
  intro l _
  exact tl_lin l
theorem textOf_nl (ls : List Str) : textOf ls = Txt.join nl (ls ++ [("" : Str)]) := by
  apply ext_tl
  rw [textOf_tl, join_eq, tl_join, tl_nl, List.map_append, ← joinL_end]
  rfl
theorem lns_textOf {ls : List Str} (h : ∀ l ∈ ls, 10 ∉ tl l) : lns (textOf ls) = ls ++ [("" : Str)] := by
  unfold lns
  rw [textOf_nl]
  refine TL.split_join (s := 10) (S := []) tl_nl kind_nl (by simp) fun p hp => ?_
  rcases List.mem_append.mp hp with hp | hp
  · exact h p hp
  · rw [List.mem_singleton.mp hp]
    decide +kernel
theorem textOf_len : ∀ ls : List Str, (textOf ls).length = (ls.map fun l => l.length + 1).sum := by
  intro ls
  rw [TL.len_tl, textOf_tl, List.length_flatten, List.map_map, List.map_map]
  congr 1
  apply List.map_congr_left
  intro l _
  simp [TL.len_tl]
theorem sum_le {α : Type} (f : α → Nat) (m : Nat) : ∀ l : List α, (∀ x ∈ l, f x ≤ m) → (l.map f).sum ≤ l.length * m
  | [], _ => by simp
  | x :: r, h => by
    have := sum_le f m r fun y hy => h y (List.mem_cons_of_mem _ hy)
    have h1 := h x List.mem_cons_self
    simp only [List.map_cons, List.sum_cons, List.length_cons, Nat.succ_mul]
    omega
theorem mid_text (w : Str) (ls : List Str) : mid (w :: ls ++ [("" : Str)]) = ls := by
  unfold mid
  simp
theorem beh_text (w : Str) (ls : List Str) : behN w (w :: ls ++ [("" : Str)]) = if 50 < ls.length then some 51 else none := by
  unfold behN
  have e1 : (w :: ls ++ [("" : Str)]).head? = some w := rfl
  have e2 : (w :: ls ++ [("" : Str)]).getLast? = some ("" : Str) := by rw [List.getLast?_append]; rfl
  rw [if_neg (by rw [e1]; simp), if_neg (by rw [e2]; simp)]
  have e3 : (w :: ls ++ [("" : Str)]).length = ls.length + 2 := by simp
  rw [e3]
  by_cases h : 50 < ls.length
  · rw [if_pos h, if_pos (by omega)]
  · rw [if_neg h, if_neg (by omega)]
/-- the text of an image -/
theorem fault_image {ls : List Str} (h : ∀ l ∈ ls, isAddr l = true) (hl : ls.length ≤ 51) : faultN false (word false :: ls ++ [("" : Str)]) = if ls.length = 51 then some 51 else none := by
  unfold faultN
  rw [beh_text, mid_text]
  by_cases e : 50 < ls.length
  · rw [if_pos e]
    show some 51 = _
    rw [if_pos (by omega)]
  · rw [if_neg e, if_neg (show ¬ ls.length = 51 by omega)]
    have e3 : (word false :: ls ++ [("" : Str)]).length - 2 = ls.length := by simp
    rw [e3]
    simp only [Bool.false_eq_true, false_and, if_false]
    rw [find_miss (p := bad false ls) fun j hj => ?_]
    · rfl
    · have hg : ls.getD j "" = ls[j] := by rw [List.getD_eq_getElem?_getD, List.getElem?_eq_getElem hj]; rfl
      show (!isAddr (ls.getD j "")) = false
      rw [hg, h _ (List.getElem_mem hj)]
      rfl
theorem plat_no {t : Str} (h : isPlat t = true) : 32 ∉ tl t ∧ 10 ∉ tl t ∧ 1 ≤ t.length ∧ t.length ≤ 10 := by
  unfold isPlat at h
  rw [Bool.and_eq_true, Bool.and_eq_true] at h
  have key : ∀ c ∈ tl t, c ∈ letters := fun c hc => of_decide_eq_true (List.all_eq_true.mp h.2 c hc)
  exact ⟨fun m => absurd (key _ m) (by decide), fun m => absurd (key _ m) (by decide), of_decide_eq_true h.1.1, of_decide_eq_true h.1.2⟩
/-- a line of a bundle -/
def ent (p : Str × Str) : Str := Str.empty ++ p.1 ++ sp ++ p.2
theorem ent_tl (p : Str × Str) : tl (ent p) = tl p.1 ++ 32 :: tl p.2 := by
  unfold ent
  rw [tl_append, tl_append, tl_append, tl_sp]
  show ([] ++ tl p.1 ++ [32]) ++ tl p.2 = _
  simp
theorem ent_part {p : Str × Str} (h : 32 ∉ tl p.1) : nam (ent p) = p.1 ∧ adr (ent p) = p.2 := by
  have e : ent p = p.1 ++ sp ++ p.2 := by
    apply ext_tl
    rw [ent_tl, tl_append, tl_append, tl_sp]
    simp
  have ep : Txt.partition (ent p) sp = (p.1, sp, p.2) := by
    rw [e]
    exact TL.partition_app tl_sp h
  unfold nam adr
  rw [ep]
  exact ⟨rfl, rfl⟩
theorem fault_bundle {es : List (Str × Str)} (h : ∀ p ∈ es, isPlat p.1 = true ∧ isAddr p.2 = true) (hd : (es.map (·.1)).Nodup) (h1 : 1 ≤ es.length) (hl : es.length ≤ 50) : faultN true (word true :: es.map ent ++ [("" : Str)]) = none := by
  unfold faultN
  rw [beh_text, mid_text, if_neg (show ¬ 50 < (es.map ent).length by rw [List.length_map]; omega)]
  have e3 : (word true :: es.map ent ++ [("" : Str)]).length = es.length + 2 := by simp
  rw [e3]
  show (if true = true ∧ es.length + 2 = 2 then some 1 else _) = _
  rw [if_neg (by omega), find_miss (p := bad true (es.map ent)) fun j hj => ?_]
  · rfl
  · have hj' : j < es.length := by omega
    have hg : (es.map ent).getD j "" = ent es[j] := by rw [List.getD_eq_getElem?_getD, List.getElem?_map, List.getElem?_eq_getElem hj']; rfl
    have hm := h _ (List.getElem_mem hj')
    have pt := ent_part (p := es[j]) (plat_no hm.1).1
    unfold bad
    rw [if_pos rfl, hg, pt.1, pt.2, hm.1, hm.2]
    have nm : ∀ q ∈ es, nam (ent q) = q.1 := fun q hq => (ent_part (plat_no (h q hq).1).1).1
    have e4 : ((es.map ent).take j).map nam = (es.map (·.1)).take j := by
      rw [List.map_take, List.map_map]
      congr 1
      exact List.map_congr_left nm
    rw [e4]
    have e5 : es[j].1 ∉ (es.map (·.1)).take j := by
      intro m
      obtain ⟨i, hi, e⟩ := List.getElem_of_mem m
      rw [List.length_take, List.length_map] at hi
      rw [List.getElem_take] at e
      have : (es.map (·.1))[i]'(by rw [List.length_map]; omega) = (es.map (·.1))[j]'(by rw [List.length_map]; omega) := by rw [e, List.getElem_map]
      have := (List.getElem_inj hd).mp this
      omega
    rw [decide_eq_false e5]
    rfl
end LW
namespace LW
open PySem PySem.Spec PyProof.Rows L2 GxR
def topS (i : Nat) : Stmt := PySem.Challenge.pw_layerwharf_k02_texts_of_images.main.body.getD i (.Pass ⟨0, 0, 0, 0⟩)
/-! ### what the top holds -/
structure Tx (K : PySem.W.Frag) (mg : Str → Option Value) (cM cR cU : Addr) : Prop where
  len : mg "len" = none
  int : mg "int" = none
  abs : mg "abs" = none
  all : mg "all" = none
  range : mg "range" = none
  isi : mg "isinstance" = none
  str : mg "str" = none
  bool : mg "bool" = none
  list : mg "list" = none
  enum : mg "enumerate" = none
  sup : mg "super" = none
  val : mg "ValueError" = none
  MAL : mg "Malformed" = some (.ref cM)
  REF : mg "Refused" = some (.ref cR)
  MIS : mg "Misused" = some (.ref cU)
  DIGITS : ∃ t, mg "_DIGITS" = some (.str "0123456789abcdef" t)
  LENGTH : ∃ t, mg "_LENGTH" = some (.int 16 t)
  IMAGE : ∃ t, mg "_IMAGE" = some (.str "image" t)
  BUNDLE : ∃ t, mg "_BUNDLE" = some (.str "bundle" t)
  MOST : ∃ t, mg "_MOST_LINES" = some (.int 50 t)
  LETTERS : ∃ t, mg "_LETTERS" = some (.str "abcdefghijklmnopqrstuvwxyz" t)
  LONGEST : ∃ t, mg "_LONGEST_PLATFORM" = some (.int 10 t)
abbrev s_is_address : Stmt := topS 3
abbrev N_is_address : List Str := ["text"]
abbrev P_is_address : List Str := ["text"]
theorem sc_is_address : FnScope N_is_address P_is_address (defScope s_is_address) := ⟨rfl, rfl, rfl, by decide +kernel, rfl, by decide +kernel, by decide +kernel⟩
abbrev s_is_platform : Stmt := topS 21
abbrev N_is_platform : List Str := ["text"]
abbrev P_is_platform : List Str := ["text"]
theorem sc_is_platform : FnScope N_is_platform P_is_platform (defScope s_is_platform) := ⟨rfl, rfl, rfl, by decide +kernel, rfl, by decide +kernel, by decide +kernel⟩
/-- yes or no; the def's table of code may have grown -/
def spYes (p : Str → Bool) (B : Addr) : Sp := fun vs H Q _ => ∃ t : Str, vs = [.str t] ∧ t.length ≤ sizeLine ∧ TabG H B ∧ ∀ H', Gr H H' → Q (.bl (p t)) H'
abbrev s_init : Stmt := inClass (topS 6) 0
abbrev N_init : List Str := ["self", "line"]
abbrev P_init : List Str := ["self", "line"]
theorem sc_init : SupScope N_init P_init (defScope s_init) := ⟨rfl, rfl, rfl, by decide +kernel, rfl, by decide +kernel, by decide +kernel, by decide +kernel⟩
/-- Malformed.__init__: the exception at a has its line -/
def spInit (C : Addr) : Sp := fun vs H Q _ => ∃ (a : Addr) (n : Nat), vs = [.ref a, .int (n : Int)] ∧ n < 1000000 ∧ H a = some (exo a C none) ∧
  ∀ dx, H dx = none → dx ≠ a → Q .non (upd (upd H dx (exd dx [(("line" : Str), .int (n : Int))])) a (exo a C (some dx)))
section
variable {P : Program} {w : World} {K : PySem.W.Frag} {mg : Str → Option Value} {base : Heap} {cM cR cU : Addr}
theorem len_eq16 (t : Str) : decide (V.int (t.length : Nat) = V.int 16) = decide (t.length = 16) := by
  apply decide_eq_decide.mpr
  constructor
  · intro h; injection h with h; omega
  · intro h; rw [h]; rfl
theorem ok_is_address {f c B : Addr} {fd : FuncData} (F : FunC K "is_address" "is_address" s_is_address f fd c) (T : Tx K mg cM cR cU) (TB : TabB base mg c B) : FnOk P w K mg base CX0 1 f fd P_is_address (spYes isAddr B) := by
  refine F.ok sc_is_address (fun vs H Q E h => ?_) (fun A outer s H vs Q E hr h => ?_)
  · obtain ⟨t, rfl, _⟩ := h
    rfl
  · obtain ⟨t, rfl, hl, hB, q⟩ := h
    obtain ⟨tl, cL⟩ := T.LENGTH
    obtain ⟨td, cD⟩ := T.DIGITS
    refine ⟨_, pss_one (ps_ret (pe_and (pe_cmpR op_eq (pe_callB call_len_str (by rfl) T.len (by decide +kernel) (pa_cons (pv 0) pa_nil)) (pe_glob (v := .int 16) (by rfl) cL ⟨_, rfl⟩) (nomark _))
      (pe_one (pe_allG hr (by rfl) T.all TB rfl ⟨rfl, rfl, by decide +kernel, rfl, rfl, no_free (by decide +kernel)⟩ (pv 0) (elt_inG rfl rfl rfl cD))))), ?_⟩
    refine ⟨_, rfl, t, rfl, hl, rfl, _, rfl, ?_⟩
    rw [len_eq16]
    cases e2 : decide (t.length = 16) with
    | false =>
      rw [if_neg Bool.false_ne_true]
      have := q H (Gr.refl H)
      unfold isAddr at this
      rw [e2] at this
      exact this
    | true =>
      rw [if_pos rfl]
      refine ⟨_, rfl, t, rfl, hB, fun H2 hT => ?_⟩
      have := q H2 (Gr.of_tab hB hT)
      unfold isAddr at this
      rw [e2, Bool.true_and] at this
      rw [digits_eq]
      exact this
theorem ok_is_platform {f c B : Addr} {fd : FuncData} (F : FunC K "_is_platform" "_is_platform" s_is_platform f fd c) (T : Tx K mg cM cR cU) (TB : TabB base mg c B) : FnOk P w K mg base CX0 1 f fd P_is_platform (spYes isPlat B) := by
  refine F.ok sc_is_platform (fun vs H Q E h => ?_) (fun A outer s H vs Q E hr h => ?_)
  · obtain ⟨t, rfl, _⟩ := h
    rfl
  · obtain ⟨t, rfl, hl, hB, q⟩ := h
    obtain ⟨tl, cL⟩ := T.LONGEST
    obtain ⟨td, cD⟩ := T.LETTERS
    refine ⟨_, pss_one (ps_ret (pe_and (pe_chain op_le op_le pe_int (pe_callB call_len_str (by rfl) T.len (by decide +kernel) (pa_cons (pv 0) pa_nil)) (pe_glob (v := .int 10) (by rfl) cL ⟨_, rfl⟩))
      (pe_one (pe_allG hr (by rfl) T.all TB rfl ⟨rfl, rfl, by decide +kernel, rfl, rfl, no_free (by decide +kernel)⟩ (pv 0) (elt_inG rfl rfl rfl cD))))), ?_⟩
    refine ⟨_, rfl, t, rfl, hl, _, _, rfl, rfl, _, rfl, ?_⟩
    have d1 : decide ((1 : Int) ≤ ((t.length : Nat) : Int)) = decide (1 ≤ t.length) := decide_eq_decide.mpr (by omega)
    have d2 : decide (((t.length : Nat) : Int) ≤ 10) = decide (t.length ≤ 10) := decide_eq_decide.mpr (by omega)
    rw [d1]
    cases e1 : decide (1 ≤ t.length) with
    | false =>
      rw [if_neg Bool.false_ne_true]
      refine ⟨_, rfl, ?_⟩
      rw [if_neg Bool.false_ne_true]
      have := q H (Gr.refl H)
      unfold isPlat at this
      rw [e1] at this
      exact this
    | true =>
      rw [if_pos rfl]
      refine ⟨_, _, rfl, rfl, _, rfl, ?_⟩
      rw [d2]
      cases e2 : decide (t.length ≤ 10) with
      | false =>
        rw [if_neg Bool.false_ne_true]
        have := q H (Gr.refl H)
        unfold isPlat at this
        rw [e1, e2] at this
        exact this
      | true =>
        rw [if_pos rfl]
        refine ⟨_, rfl, t, rfl, hB, fun H2 hT => ?_⟩
        have := q H2 (Gr.of_tab hB hT)
        unfold isPlat at this
        rw [e1, e2, Bool.and_self, Bool.true_and] at this
        rw [letters_eq]
        exact this
/-- Malformed.__init__ as it stands -/
structure InitAt (P : Program) (K : PySem.W.Frag) (C f cc cda : Addr) (fd : FuncData) : Prop where
  S : SupAt P K C cc cda
  ex : ∃ (oc : Value) (od : Option Addr) (kV doc pm : Value) (an : Option Addr) (ct : Value) (osl : Array (Option Value)),
    fd = PySem.W.ksFn "__init__" "Malformed.__init__" (defArgs s_init) (defBody s_init) (defScope s_init) .none kV doc pm an (.ref cda) ct cc ∧ K.lookup f = some ⟨oc, od, .func fd, osl⟩ ∧ PySem.W.codeIn K (.ref cda) "Malformed.__init__" = true
  noL : PySem.W.findIn K (.ref C) "line" = some none
theorem ok_init {f cc cda : Addr} {fd : FuncData} (F : InitAt P K cM f cc cda fd) (T : Tx K mg cM cR cU) : FnOk P w K mg base CX0 1 f fd P_init (spInit cM) := by
  obtain ⟨oc, od, kV, doc, pm, an, ct, osl, e, lk, hcd⟩ := F.ex
  subst e
  obtain ⟨cl, cld, csl, hcell⟩ := F.S.cell
  refine fn_sup lk hcd hcell rfl sc_init (fun vs H Q E h => ?_) (fun A outer s H vs Q E s1 hr h I => ?_)
  · obtain ⟨a, n, rfl, _⟩ := h
    rfl
  · obtain ⟨a, n, rfl, hn, ha, q⟩ := h
    refine sup_init (i := 0) (R := fun H1 => H1 = H) F.S I T.sup lk rfl rfl rfl rfl rfl rfl rfl rfl rfl rfl ha (pa_cons (pe_joined (PJ.cons pe_str (PJ.cons (pe_fmt (pv 1)) (PJ.cons pe_str PJ.nil)))) pa_nil) ?_ ?_ rfl
    · have hlog : ((n : Int).natAbs).log2 < 1920 := by
        rw [Int.natAbs_natCast]
        rcases Nat.eq_zero_or_pos n with h0 | h0
        · rw [h0]; decide
        · rw [Nat.log2_lt (by omega)]
          exact Nat.lt_of_lt_of_le hn (Nat.le_trans (show (1000000 : Nat) ≤ 2 ^ 20 by decide) (Nat.pow_le_pow_right (by decide) (by decide)))
      have hnl : (toString (n : Int) : Str).length ≤ 6 := by
        rw [TL.len_tl, TL.tl_num]
        exact TL.numL_len (by decide) hn
      have l1 : ∀ x y : Str, (x ++ y).length = x.length + y.length := fun x y => by rw [TL.len_tl, TL.len_tl, TL.len_tl, TL.tl_append, List.length_append]
      refine ⟨_, rfl, by decide +kernel, _, rfl, .inr ⟨_, rfl, hlog, _, rfl, ?_, _, rfl, ?_, ?_⟩⟩
      · rw [l1, l1]
        have e : (Str.empty : Str).length + (Str.ofString "line ").length = 5 := by decide +kernel
        rw [sizeLine_eq]
        omega
      · rw [l1, l1, l1]
        have e : (Str.empty : Str).length + (Str.ofString "line ").length = 5 := by decide +kernel
        have e2 : (Str.ofString " is malformed").length = 13 := by decide +kernel
        rw [sizeLine_eq]
        omega
      · exact ⟨by show 1 ≤ 1000; decide, ha, rfl⟩
    · rintro H1 s2 I2 rfl ha1
      refine (pss_one (ps_ost (pv 0) (pv 1))).run [] s2 _ _ _ I2 ?_
      exact ⟨_, rfl, _, rfl, a, cM, rfl, F.S.T, F.noL, .inl ⟨ha1, fun dx n1 n2 => q dx n1 n2⟩⟩
end
end LW
namespace LW
open PySem PySem.Spec PyProof.Rows L2 GxR
/-- what raise Malformed(n) asks -/
theorem mal_end {C : Addr} {H1 : Hp} {n : Nat} {Q : XK} (hn : n < 1000000) (q : ∀ d H', H1 d = none → Same H1 H' → H' d = some (.xd [(("line" : Str), .int (n : Int))]) → Q (.ref C) (some d) H') :
    [V.int (n : Int)].length ≤ 1000 ∧ ∀ a, H1 a = none → spInit C (.ref a :: ([V.int (n : Int)] ++ [])) (upd H1 a (exo a C none))
      (fun v H2 => v = .non ∧ ∃ (d : Addr) (fs : List (Str × V)), H2 a = some (exo a C (some d)) ∧ H2 d = some (exd d fs) ∧ H1 d = none ∧ Q (.ref C) (some d) (upd (del H2 a) d (.xd fs))) (fun _ _ _ => False) := by
  refine ⟨by show 1 ≤ 1000; decide, fun a na => ⟨a, n, rfl, hn, upd_same, fun dx n1 n2 => ⟨rfl, dx, [(("line" : Str), .int (n : Int))], upd_same, ?_, ?_, ?_⟩⟩⟩
  · rw [upd_ne n2, upd_same]
  · rw [← n1, upd_ne n2]
  · have nd : H1 dx = none := by rw [← n1, upd_ne n2]
    refine q dx _ nd (fun b o e => ?_) upd_same
    rw [upd_ne (ne_of_none e nd), del_ne (ne_of_none e na), upd_ne (ne_of_none e na), upd_ne (ne_of_none e nd), upd_ne (ne_of_none e na)]
    exact e
abbrev s_text_of : Stmt := topS 19
abbrev N_text_of : List Str := ["word", "lines", "line"]
abbrev P_text_of : List Str := ["word", "lines"]
theorem sc_text_of : FnScope N_text_of P_text_of (defScope s_text_of) := ⟨rfl, rfl, rfl, by decide +kernel, rfl, by decide +kernel, by decide +kernel⟩
def spText (K : PySem.W.Frag) : Sp := fun vs H Q _ => ∃ (w0 : Str) (l : Addr) (ls : List Str), vs = [.str w0, .ref l] ∧ SqL K H l (ls.map V.str) ∧ ls.length ≤ 100 ∧ (∀ x ∈ w0 :: ls, x.length ≤ 1000) ∧ ∀ H', Same H H' → Q (.str (textOf (w0 :: ls))) H'
abbrev s_image_text : Stmt := topS 14
abbrev N_image_text : List Str := ["layers"]
abbrev P_image_text : List Str := ["layers"]
theorem sc_image_text : FnScope N_image_text P_image_text (defScope s_image_text) := ⟨rfl, rfl, rfl, by decide +kernel, rfl, by decide +kernel, by decide +kernel⟩
def spImage (K : PySem.W.Frag) : Sp := fun vs H Q _ => ∃ (l : Addr) (ls : List Str), vs = [.ref l] ∧ SqL K H l (ls.map V.str) ∧ ls.length ≤ 100 ∧ (∀ x ∈ ls, x.length ≤ 1000) ∧ ∀ H', Same H H' → Q (.str (textOf (word false :: ls))) H'
abbrev s_bundle_text : Stmt := topS 15
abbrev N_bundle_text : List Str := ["entries", "platform", "address"]
abbrev P_bundle_text : List Str := ["entries"]
theorem sc_bundle_text : FnScope N_bundle_text P_bundle_text (defScope s_bundle_text) := ⟨rfl, rfl, rfl, by decide +kernel, rfl, by decide +kernel, by decide +kernel⟩
/-- a list of pairs -/
def Prs (K : PySem.W.Frag) (H : Hp) (ts : List V) (es : List (Str × Str)) : Prop := Paired (fun (v : V) (p : Str × Str) => ∃ t, v = .ref t ∧ H t = some (.tup [.str p.1, .str p.2])) ts es
theorem Prs.mono {K : PySem.W.Frag} {H H' : Hp} {ts : List V} {es : List (Str × Str)} (h : Prs K H ts es) (g : Gr H H') : Prs K H' ts es := by
  induction h with
  | nil => exact .nil
  | cons r _ ih =>
    obtain ⟨t, e, ht⟩ := r
    exact .cons ⟨t, e, g.tup ht⟩ ih
def spBundle (K : PySem.W.Frag) : Sp := fun vs H Q _ => ∃ (l : Addr) (ts : List V) (es : List (Str × Str)), vs = [.ref l] ∧ SqL K H l ts ∧ Prs K H ts es ∧ es.length ≤ 100 ∧ (∀ x ∈ es, x.1.length ≤ 100 ∧ x.2.length ≤ 100) ∧ ∀ H', Same H H' → Q (.str (textOf (word true :: es.map ent))) H'
theorem tl_one (x : Str) : Str.empty ++ x = x := by
  apply TL.ext_tl
  rw [TL.tl_append]
  rfl
theorem app_len (x y : Str) : (x ++ y).length = x.length + y.length := by rw [TL.len_tl, TL.len_tl, TL.len_tl, TL.tl_append, List.length_append]
section
variable {P : Program} {w : World} {K : PySem.W.Frag} {mg : Str → Option Value} {base : Heap} {cM cR cU : Addr}
theorem ok_text_of {f : Addr} {fd : FuncData} (F : Fun K "_text_of" "_text_of" s_text_of f fd) : FnOk P w K mg base CX0 1 f fd P_text_of (spText K) := by
  refine F.ok sc_text_of (fun vs H Q E h => ?_) (fun cdv A outer s H vs Q E hr h => ?_)
  · obtain ⟨w0, l, ls, rfl, _⟩ := h
    rfl
  · obtain ⟨w0, l, ls, rfl, hS, hl, hw, q⟩ := h
    have nd := sc_text_of.nd
    refine ⟨_, pss_one (ps_ret (pe_join pe_str (pe_lc (own := [("line", 2)]) (g := gName 2) (tt := tYes) rfl nd (pi_list (pe_lst (pa_cons (pv 0) (StX.pa_star (pv 1) pa_nil)))) (blkOk_by (N := N_text_of) (sc := defScope s_text_of) (by decide +kernel)) (fun _ _ _ _ _ => (pg_name (i := 2) nd rfl (Or.inl rfl))) (fun _ _ _ _ _ => pts_nil) (fun _ _ _ _ _ => (pe_joined (PJ.cons (pe_fmt (pv 2)) (PJ.cons pe_str PJ.nil))))))), ?_⟩
    have es : V.str w0 :: (ls.map V.str ++ []) = (w0 :: ls).map V.str := by rw [List.append_nil]; rfl
    refine ⟨⟨_, rfl⟩, .str w0, rfl, .ref l, rfl, l, _, rfl, .inr hS, ?_⟩
    refine ⟨?_, fun p np => ?_⟩
    · show (V.str w0 :: (ls.map V.str ++ [])).length ≤ sizeLine
      rw [es, List.length_map, List.length_cons, sizeLine_eq]; omega
    have sm1 : Same H (upd H p (.lst (V.str w0 :: (ls.map V.str ++ [])))) := same_upd np
    refine ⟨p, rfl, ⟨_, SqL.of upd_same⟩, fun D nD => lc_map (walk_list (K := K) (a := p) (xs := V.str w0 :: (ls.map V.str ++ []))) (vs := [2]) (te := fun σ H Q => tJs [tFmt (tVar 2), tC (.str "\n")] Str.empty σ H fun out H1 => Q (.str out) H1) (fun i => .str (lin ((w0 :: ls).getD i ""))) ?_ ?_ (fun _ => rfl) ?_ ?_⟩
    · rw [es, List.length_map, List.length_cons]; omega
    · intro H2 hb
      exact hb.list nD (SqL.of upd_same)
    · rintro i x H2 H3 hi hb ⟨rfl, hx⟩
      rw [es, List.getElem?_map] at hx
      cases e : (w0 :: ls)[i]? with
      | none => rw [e] at hx; cases hx
      | some z =>
        rw [e] at hx
        cases hx
        have e9 : (w0 :: ls).getD i "" = z := by rw [List.getD_eq_getElem?_getD, e]; rfl
        have hz : z.length ≤ 1000 := hw z (List.mem_of_getElem? e)
        refine ⟨rfl, fun Q2 kk => ⟨_, rfl, .inl ⟨z, rfl, by rw [sizeLine_eq]; omega, _, rfl, ?_, _, rfl, ?_, ?_⟩⟩⟩
        · rw [tl_one, sizeLine_eq]; omega
        · rw [app_len, tl_one, sizeLine_eq]
          have : (Str.ofString "\n").length = 1 := by decide +kernel
          omega
        · rw [e9] at kk
          exact kk
    · have et : ((List.range (V.str w0 :: (ls.map V.str ++ [])).length).map fun i => V.str (lin ((w0 :: ls).getD i ""))) = ((w0 :: ls).map lin).map V.str := by
        rw [es, List.length_map, range_map_get (fun z : Str => V.str (lin z)) ("" : Str) (w0 :: ls), List.map_map]
        rfl
      rw [et]
      refine ⟨_, D, (w0 :: ls).map lin, rfl, rfl, .inl (SqL.of upd_same), ?_, ?_⟩
      · have := sum_le (fun l : Str => l.length) 1001 ((w0 :: ls).map lin) fun x hx => by
          obtain ⟨y, hy, rfl⟩ := List.mem_map.mp hx
          rw [lin_len]
          have := hw y hy
          omega
        have z : (Str.ofString "").length = 0 := by decide +kernel
        rw [z, Nat.mul_zero, Nat.add_zero]
        refine Nat.le_trans this ?_
        rw [List.length_map, List.length_cons]
        omega
      · exact q _ (sm1.trans (same_upd nD))
theorem ok_image_text {f fT : Addr} {fd dT : FuncData} (F : Fun K "image_text" "image_text" s_image_text f fd) (T : Tx K mg cM cR cU) (DT : DefAt K mg "_text_of" s_text_of P_text_of fT dT) : FnOk P w K mg base CX0 2 f fd P_image_text (spImage K) := by
  have GT : FnOk P w K mg base CX0 1 fT dT P_text_of (spText K) := ok_text_of DT.fn
  refine F.ok sc_image_text (fun vs H Q E h => ?_) (fun cdv A outer s H vs Q E hr h => ?_)
  · obtain ⟨l, ls, rfl, _⟩ := h
    rfl
  · obtain ⟨l, ls, rfl, hS, hl, hw, q⟩ := h
    obtain ⟨ti, cI⟩ := T.IMAGE
    refine ⟨_, pss_one (ps_ret (pe_call GT hr rfl DT.at_ DT.fn.kp DT.bd .nil pass0 (pa_cons (pe_glob (v := .str "image") (by rfl) cI ⟨_, rfl⟩) (pa_cons (pv 0) pa_nil)))), ?_⟩
    refine ⟨_, rfl, "image", l, ls, rfl, hS, hl, fun x hx => ?_, q⟩
    rcases List.mem_cons.mp hx with h | h
    · rw [h]; decide +kernel
    · exact hw x h
theorem Prs.get {H : Hp} {ts : List V} {es : List (Str × Str)} (h : Prs K H ts es) : ∀ {i : Nat} {v : V}, ts[i]? = some v → ∃ p t, es[i]? = some p ∧ v = .ref t ∧ H t = some (.tup [.str p.1, .str p.2]) := by
  induction h with
  | nil => intro i v h; cases h
  | @cons v0 p0 _ _ r _ ih =>
    intro i v h
    cases i with
    | zero =>
      cases h
      obtain ⟨t, e, ht⟩ := r
      exact ⟨p0, t, rfl, e, ht⟩
    | succ i => exact ih h
theorem Prs.len {H : Hp} {ts : List V} {es : List (Str × Str)} (h : Prs K H ts es) : ts.length = es.length := by
  induction h with
  | nil => rfl
  | cons _ _ ih => simp [ih]
theorem ok_bundle_text {f fT : Addr} {fd dT : FuncData} (F : Fun K "bundle_text" "bundle_text" s_bundle_text f fd) (T : Tx K mg cM cR cU) (DT : DefAt K mg "_text_of" s_text_of P_text_of fT dT) : FnOk P w K mg base CX0 2 f fd P_bundle_text (spBundle K) := by
  have GT : FnOk P w K mg base CX0 1 fT dT P_text_of (spText K) := ok_text_of DT.fn
  refine F.ok sc_bundle_text (fun vs H Q E h => ?_) (fun cdv A outer s H vs Q E hr h => ?_)
  · obtain ⟨l, ts, es, rfl, _⟩ := h
    rfl
  · obtain ⟨l, ts, es, rfl, hS, hP, hl, hw, q⟩ := h
    have nd := sc_bundle_text.nd
    obtain ⟨ti, cI⟩ := T.BUNDLE
    refine ⟨_, pss_one (ps_ret (pe_call GT hr rfl DT.at_ DT.fn.kp DT.bd .nil pass0 (pa_cons (pe_glob (v := .str "bundle") (by rfl) cI ⟨_, rfl⟩) (pa_cons (pe_lc (own := [("platform", 1), ("address", 2)]) (g := gTup K 2 (gCons (gName 1) (gCons (gName 2) gNil))) (tt := tYes) rfl nd (pi_list (pv 0)) (blkOk_by (N := N_bundle_text) (sc := defScope s_bundle_text) (by decide +kernel)) (fun _ _ _ _ _ => (pg_tup rfl (pgs_cons (pg_name (i := 1) nd rfl (Or.inl rfl)) (pgs_cons (pg_name (i := 2) nd rfl (Or.inl rfl)) pgs_nil)))) (fun _ _ _ _ _ => pts_nil) (fun _ _ _ _ _ => (pe_joined (PJ.cons (pe_fmt (pv 1)) (PJ.cons pe_str (PJ.cons (pe_fmt (pv 2)) PJ.nil)))))) pa_nil)))), ?_⟩
    have ln := hP.len
    refine ⟨.ref l, rfl, l, rfl, ⟨_, hS⟩, fun D nD => lc_pair (walk_list (K := K) (a := l) (xs := ts)) (vs := [1, 2]) (te := fun σ H Q => tJs [tFmt (tVar 1), tC (.str " "), tFmt (tVar 2)] Str.empty σ H fun out H1 => Q (.str out) H1) (fun i => .str (ent (es.getD i ("", "")))) ?_ ?_ (fun _ _ => rfl) ?_ ?_⟩
    · omega
    · intro H2 hb
      exact hb.list nD hS
    · rintro i x H2 H3 hi hb ⟨rfl, hx⟩
      obtain ⟨p, t, ep, rfl, ht⟩ := hP.get hx
      have e9 : es.getD i ("", "") = p := by rw [List.getD_eq_getElem?_getD, ep]; rfl
      have hp := hw p (List.mem_of_getElem? ep)
      have z : (Str.ofString " ").length = 1 := by decide +kernel
      refine ⟨t, .str p.1, .str p.2, rfl, rfl, SqT.of ((hb.same nD) _ _ ht), fun Q2 kk => ⟨_, rfl, .inl ⟨p.1, rfl, by rw [sizeLine_eq]; omega, _, rfl, ?_, _, rfl, ?_, _, rfl, .inl ⟨p.2, rfl, by rw [sizeLine_eq]; omega, _, rfl, ?_, ?_⟩⟩⟩⟩
      · rw [tl_one, sizeLine_eq]; omega
      · rw [app_len, tl_one, sizeLine_eq]; omega
      · rw [app_len, app_len, tl_one, sizeLine_eq]; omega
      · rw [e9] at kk
        exact kk
    · have et : ((List.range ts.length).map fun i => V.str (ent (es.getD i ("", "")))) = (es.map ent).map V.str := by
        rw [ln, range_map_get (fun z : Str × Str => V.str (ent z)) (("" : Str), ("" : Str)) es, List.map_map]
        rfl
      rw [et]
      refine ⟨"bundle", D, es.map ent, rfl, SqL.of upd_same, by rw [List.length_map]; exact hl, fun x hx => ?_, fun H' sm => q H' ((same_upd nD).trans sm)⟩
      rcases List.mem_cons.mp hx with h | h
      · rw [h]; decide +kernel
      · obtain ⟨y, hy, rfl⟩ := List.mem_map.mp h
        have hp := hw y hy
        have z : sp.length = 1 := by decide +kernel
        unfold ent
        rw [app_len, app_len, tl_one]
        omega
end
end LW
namespace LW
open PySem PySem.Spec PyProof.Rows L2 GxR
abbrev s_lines_behind : Stmt := topS 20
abbrev N_lines_behind : List Str := ["word", "text", "lines"]
abbrev P_lines_behind : List Str := ["word", "text"]
theorem sc_lines_behind : FnScope N_lines_behind P_lines_behind (defScope s_lines_behind) := ⟨rfl, rfl, rfl, by decide +kernel, rfl, by decide +kernel, by decide +kernel⟩
/-- the way out: Malformed with the line n -/
def Out (C : Addr) (H : Hp) (E : XK) (n : Nat) : Prop := ∀ d H', H d = none → Gr H H' → H' d = some (.xd [(("line" : Str), .int (n : Int))]) → E (.ref C) (some d) H'
/-- the lines behind the word, or the fault -/
def spBehind (C : Addr) : Sp := fun vs H Q E => ∃ (w0 t : Str), vs = [.str w0, .str t] ∧ w0 ≠ "" ∧ t.length ≤ 5000 ∧
  (∀ k, behN w0 (lns t) = some k → Out C H E k) ∧ (behN w0 (lns t) = none → ∀ p H', H p = none → Same H H' → H' p = some (.lst ((mid (lns t)).map V.str)) → Q (.ref p) H')
/-- the class, its init and the rule to raise -/
structure MalAt (P : Program) (K : PySem.W.Frag) (mg : Str → Option Value) (C f cc cda : Addr) (fd : FuncData) : Prop where
  I : InitAt P K C f cc cda fd
  iC : PySem.W.findIn K (.ref C) "__init__" = some (some (.ref f))
  tI : PySem.W.typeIn K (.ref f) = some (.type "function")
  bI : Binds K fd P_init []
theorem head_at {α : Type} (l : List α) (h : l ≠ []) : ∃ x, l.head? = some x ∧ l[0]? = some x := by
  cases l with
  | nil => exact absurd rfl h
  | cons x r => exact ⟨x, rfl, rfl⟩
theorem last_at {α : Type} (l : List α) (h : l ≠ []) : ∃ x, l.getLast? = some x ∧ l[l.length - 1]? = some x := by
  have e : l.getLast? = l[l.length - 1]? := List.getLast?_eq_getElem?
  have hl : l.length - 1 < l.length := by
    have := List.length_pos_iff.mpr h
    omega
  exact ⟨l[l.length - 1], by rw [e, List.getElem?_eq_getElem hl], List.getElem?_eq_getElem hl⟩
theorem neq_str (x y : Str) : (!decide (V.str x = V.str y)) = decide (x ≠ y) := by
  by_cases h : x = y
  · subst h; simp
  · have : V.str x ≠ V.str y := fun e => h (by injection e)
    simp [h]
theorem drop_last {α : Type} : ∀ l : List α, l.dropLast.drop 1 = (l.drop 1).dropLast
  | [] => rfl
  | [_] => rfl
  | _ :: _ :: _ => rfl
theorem cut1 (xs : List V) : cutV xs (some 1) none = xs.drop 1 := by
  unfold cutV
  have e1 : HT.sIx xs.length 0 (some 1) = min 1 xs.length := by
    exact HT.sIx_nat xs.length 0 1
  have e2 : HT.sIx xs.length xs.length none = xs.length := rfl
  rw [e1, e2]
  rcases Nat.eq_zero_or_pos xs.length with h | h
  · rw [List.length_eq_zero_iff.mp h]; rfl
  · rw [Nat.min_eq_left (by omega), List.take_of_length_le (by simp)]
section
variable {P : Program} {w : World} {K : PySem.W.Frag} {mg : Str → Option Value} {base : Heap} {cM cR cU : Addr}
theorem ok_lines_behind {f fM cc cda : Addr} {fd dM : FuncData} (F : Fun K "_lines_behind" "_lines_behind" s_lines_behind f fd) (T : Tx K mg cM cR cU) (M : MalAt P K mg cM fM cc cda dM) :
    FnOk P w K mg base (L2.CX P w) 3 f fd P_lines_behind (spBehind cM) := by
  have GM : FnOk P w K mg base CX0 1 fM dM P_init (spInit cM) := ok_init M.I T
  refine F.okX sc_lines_behind (fun vs H Q E h => ?_) (fun cdv A outer s H vs Q E hr h => ?_)
  · obtain ⟨w0, t, rfl, _⟩ := h
    rfl
  · obtain ⟨w0, t, rfl, hw, hl, hE, hQ⟩ := h
    have nd := sc_lines_behind.nd
    obtain ⟨tm, cM'⟩ := T.MOST
    refine ⟨_, pss_cons (ps_set (i := 2) nd rfl (Or.inl rfl) (pe_split (pv 1) pe_str))
  (pss_cons (ps_if (pt_cmpR op_ne (pe_ix ix_list (pv 2) pe_int (fun _ _ => rfl)) (pv 0) (nomark _))
    (pss_one (ps_raise rfl (takes_of rfl rfl rfl rfl) (pmk_oex M.I.S.T M.iC M.tI GM hr M.bI .nil pass0 rfl T.MAL (pa_cons pe_int pa_nil))))
    (pss_nil))
  (pss_cons (ps_if (pt_cmpR op_ne (pe_bm0 PySem.F.plainAttrs_list PySem.F.slot_list_pop PySem.F.type_list_pop mt_pop (pv 2)) pe_str (nomark _))
    (pss_one (ps_raise rfl (takes_of rfl rfl rfl rfl) (pmk_oex M.I.S.T M.iC M.tI GM hr M.bI .nil pass0 rfl T.MAL (pa_cons (pe_callB call_len_seq (by rfl) T.len (by decide +kernel) (pa_cons (pv 2) pa_nil)) pa_nil))))
    (pss_nil))
  (pss_cons (ps_if (pt_cmpR op_gt (pe_callB call_len_seq (by rfl) T.len (by decide +kernel) (pa_cons (pv 2) pa_nil)) (pe_op op_add (pe_glob (v := .int 50) (by rfl) cM' ⟨_, rfl⟩) pe_int) (nomark _))
    (pss_one (ps_raise rfl (takes_of rfl rfl rfl rfl) (pmk_oex M.I.S.T M.iC M.tI GM hr M.bI .nil pass0 rfl T.MAL (pa_cons (pe_op op_add (pe_glob (v := .int 50) (by rfl) cM' ⟨_, rfl⟩) pe_int) pa_nil))))
    (pss_nil))
  (pss_one (ps_ret (pe_slice sl_list (pv 2) (po_some pe_int) po_none)))))), ?_⟩
    have hsz : t.length + 2 ≤ sizeLine := by rw [sizeLine_eq]; omega
    have hne := lns_ne t
    have hlen := lns_len t
    obtain ⟨hd, eh, eh0⟩ := head_at _ hne
    obtain ⟨la, el, el0⟩ := last_at _ hne
    refine ⟨.str t, rfl, ⟨t, rfl⟩, t, nl, rfl, rfl, by decide +kernel, hsz, fun p np => ?_⟩
    show _
    have hp : (upd H p (.lst ((lns t).map V.str))) p = some (.lst ((lns t).map V.str)) := upd_same
    have sm : Same H (upd H p (.lst ((lns t).map V.str))) := same_upd np
    refine ⟨.ref p, rfl, p, _, 0, .str hd, rfl, rfl, SqL.of hp, atI_nat (by rw [List.getElem?_map, eh0]; rfl), .str w0, rfl, rfl, _, rfl, ?_⟩
    rw [neq_str]
    refine ite2 (fun e => ?_) (fun e => ?_)
    · have hbe : behN w0 (lns t) = some 0 := by
        unfold behN
        rw [if_pos]
        rw [eh]
        intro z
        exact of_decide_eq_true e (Option.some.inj z)
      refine mal_end (n := 0) (by decide) fun d H' nd1 sm1 hd1 => ?_
      exact hE 0 hbe d H' (sm.free nd1) (.of_same (sm.trans sm1)) hd1
    · have ehw : hd = w0 := by
        have := of_decide_eq_false (eq_false_of_ne_true e)
        exact Classical.not_not.mp this
      have b1 : (lns t).head? = some w0 := by rw [eh, ehw]
      have eml : ((lns t).map V.str).length = (lns t).length := List.length_map _
      have el1 : ((lns t).map V.str)[((lns t).map V.str).length - 1]? = some (V.str la) := by rw [eml, List.getElem?_map, el0]; rfl
      have edl : ((lns t).map V.str).dropLast = ((lns t).dropLast).map V.str := by rw [List.map_dropLast]
      refine ⟨.ref p, rfl, .inl ⟨rfl, _, SqL.of hp⟩, p, _, .str la, rfl, rfl, hp, el1, rfl, _, rfl, ?_⟩
      rw [neq_str, edl, upd_upd]
      have hp2 : (upd H p (.lst (((lns t).dropLast).map V.str))) p = some (.lst (((lns t).dropLast).map V.str)) := upd_same
      have sm2 : Same H (upd H p (.lst (((lns t).dropLast).map V.str))) := same_upd np
      refine ite2 (fun e => ?_) (fun e => ?_)
      · have hbe : behN w0 (lns t) = some ((lns t).length - 1) := by
          unfold behN
          rw [if_neg (by rw [b1]; exact fun z => z rfl), if_pos]
          rw [el]
          intro z
          exact of_decide_eq_true e (Option.some.inj z)
        refine ⟨_, rfl, p, _, rfl, .inl (SqL.of hp2), ?_⟩
        rw [List.length_map, List.length_dropLast]
        refine mal_end (n := (lns t).length - 1) (by omega) fun d H' nd1 sm1 hd1 => ?_
        exact hE _ hbe d H' (sm2.free nd1) (.of_same (sm2.trans sm1)) hd1
      · have ela : la = "" := by
          have := of_decide_eq_false (eq_false_of_ne_true e)
          exact Classical.not_not.mp this
        have b2 : (lns t).getLast? = some ("" : Str) := by rw [el, ela]
        refine ⟨_, rfl, p, _, rfl, .inl (SqL.of hp2), _, _, rfl, rfl, _, _, rfl, rfl, _, rfl, ?_⟩
        rw [List.length_map, List.length_dropLast]
        refine ite2 (fun e => ?_) (fun e => ?_)
        · have h52 : 52 < (lns t).length := by
            have := of_decide_eq_true e
            omega
          have hbe : behN w0 (lns t) = some 51 := by
            unfold behN
            rw [if_neg (by rw [b1]; exact fun z => z rfl), if_neg (by rw [b2]; exact fun z => z rfl), if_pos h52]
          refine ⟨_, _, rfl, rfl, ?_⟩
          refine mal_end (n := 51) (by decide) fun d H' nd1 sm1 hd1 => ?_
          exact hE 51 hbe d H' (sm2.free nd1) (.of_same (sm2.trans sm1)) hd1
        · have h52 : ¬ 52 < (lns t).length := by
            have := of_decide_eq_false (eq_false_of_ne_true e)
            omega
          have hbe : behN w0 (lns t) = none := by
            unfold behN
            rw [if_neg (by rw [b1]; exact fun z => z rfl), if_neg (by rw [b2]; exact fun z => z rfl), if_neg h52]
          refine ⟨.ref p, rfl, 1, rfl, p, _, rfl, SqL.of hp2, fun p2 np2 => ?_⟩
          rw [cut1]
          refine hQ hbe p2 _ (sm2.free np2) (sm2.trans (same_upd np2)) ?_
          rw [upd_same, ← List.map_drop, drop_last]
          rfl
end
end LW
namespace LW
open PySem PySem.Spec PyProof.Rows L2 GxR
abbrev s_read_image : Stmt := topS 16
abbrev N_read_image : List Str := ["text", "layers", "at", "layer"]
abbrev P_read_image : List Str := ["text"]
theorem sc_read_image : FnScope N_read_image P_read_image (defScope s_read_image) := ⟨rfl, rfl, rfl, by decide +kernel, rfl, by decide +kernel, by decide +kernel⟩
def spReadI (C B1 : Addr) : Sp := fun vs H Q E => ∃ t : Str, vs = [.str t] ∧ t.length ≤ 5000 ∧ TabG H B1 ∧
  (∀ k, faultN false (lns t) = some k → Out C H E k) ∧ (faultN false (lns t) = none → ∀ p H', H p = none → Gr H H' → H' p = some (.lst ((mid (lns t)).map V.str)) → Q (.ref p) H')
/-- a def of the module by its name, its code object known -/
structure DefC (K : PySem.W.Frag) (mg : Str → Option Value) (x : Str) (st : Stmt) (ps : List Str) (f : Addr) (fd : FuncData) (c : Addr) : Prop where
  fn : FunC K x x st f fd c
  at_ : mg x = some (.ref f)
  bd : Binds K fd ps []
theorem fault_beh {b : Bool} {ls : List Str} {k : Nat} (h : behN (word b) ls = some k) : faultN b ls = some k := by
  unfold faultN
  rw [h]
theorem fault_mid {b : Bool} {ls : List Str} (h : behN (word b) ls = none) : faultN b ls = if b = true ∧ ls.length = 2 then some 1 else ((List.range (ls.length - 2)).find? (bad b (mid ls))).map (· + 1) := by
  unfold faultN
  rw [h]
theorem mid_mem {ls : List Str} {x : Str} (h : x ∈ mid ls) : x ∈ ls := by
  unfold mid at h
  exact List.mem_of_mem_drop (List.dropLast_subset _ h)
theorem Out.imp {C : Addr} {H H1 : Hp} {E : XK} {k : Nat} (o : Out C H E k) (g : Gr H H1) : Out C H1 E k := fun d H' n g' e => o d H' (g.free d n) (g.trans g') e
section
variable {P : Program} {w : World} {K : PySem.W.Frag} {mg : Str → Option Value} {base : Heap} {cM cR cU : Addr}
theorem ok_read_image {f fM cc cda fB fI cI B1 : Addr} {fd dM dB dI : FuncData} (F : Fun K "read_image" "read_image" s_read_image f fd) (T : Tx K mg cM cR cU) (M : MalAt P K mg cM fM cc cda dM)
    (DB : DefAt K mg "_lines_behind" s_lines_behind P_lines_behind fB dB) (DI : DefC K mg "is_address" s_is_address P_is_address fI dI cI) (TI : TabB base mg cI B1) :
    FnOk P w K mg base (L2.CX P w) 4 f fd P_read_image (spReadI cM B1) := by
  have GM : FnOk P w K mg base CX0 1 fM dM P_init (spInit cM) := ok_init M.I T
  have GB : FnOk P w K mg base (L2.CX P w) 3 fB dB P_lines_behind (spBehind cM) := ok_lines_behind DB.fn T M
  have GI : FnOk P w K mg base CX0 1 fI dI P_is_address (spYes isAddr B1) := ok_is_address DI.fn T TI
  refine F.okX sc_read_image (fun vs H Q E h => ?_) (fun cdv A outer s H vs Q E hr h => ?_)
  · obtain ⟨t, rfl, _⟩ := h
    rfl
  · obtain ⟨t, rfl, hl, hB, hE, hQ⟩ := h
    have nd := sc_read_image.nd
    obtain ⟨tI, cIm⟩ := T.IMAGE
    have hr2 := hr.mono (show 2 ≤ 3 by decide)
    have hr1 := hr.mono (show 1 ≤ 3 by decide)
    refine ⟨_, pss_cons (ps_set (i := 1) nd rfl (Or.inl rfl) (pe_callS GB hr rfl DB.at_ DB.fn.kp DB.bd (fun σ => passAt (takes_of rfl rfl rfl rfl) σ) (pa_cons (pe_glob (v := .str "image") (by rfl) cIm ⟨_, rfl⟩) (pa_cons (pv 0) pa_nil))))
  (pss_cons (ps_for (passes_of rfl) rfl (pi_enumC (by rfl) T.enum (pa_cons (pv 1) pa_nil) (pk_cons pe_int pk_nil)) (pg_tup rfl (pgs_cons (pg_name (i := 2) nd rfl (Or.inl rfl)) (pgs_cons (pg_name (i := 3) nd rfl (Or.inl rfl)) pgs_nil)))
    (pss_one (ps_if (pt_not (pt_val (pe_call GI hr1 rfl DI.at_ DI.fn.kp DI.bd .nil pass0 (pa_cons (pv 3) pa_nil))))
    (pss_one (ps_raise rfl (takes_of rfl rfl rfl rfl) (pmk_oex M.I.S.T M.iC M.tI GM hr2 M.bI .nil pass0 rfl T.MAL (pa_cons (pv 2) pa_nil))))
    (pss_nil))))
  (pss_one (ps_ret (pv 1)))), ?_⟩
    refine ⟨.str t, rfl, "image", t, rfl, by decide +kernel, hl, fun k hk d H' nd1 g1 hd1 => hE k (fault_beh (b := false) hk) d H' nd1 g1 hd1, fun hn p H1 np sm hp => ?_⟩
    have hf := fault_mid (b := false) hn
    have ln := mid_len (lns t)
    have gr1 : Gr H H1 := .of_same sm
    have lm := lns_len t
    have lS : ((mid (lns t)).map V.str).length = (mid (lns t)).length := List.length_map _
    refine ⟨.ref p, rfl, p, 1, _, rfl, rfl, by decide, by decide, SqL.of hp, ?_⟩
    refine for_it (walk_enumC (K := K) (c := 1) (a := p) (xs := (mid (lns t)).map V.str)) (fun i σ H' => Gr H1 H' ∧ (∀ j, j < i → bad false (mid (lns t)) j = false) ∧ ∃ v1 v2, σ = [some (.str t), some (.ref p), v1, v2]) ⟨Gr.refl _, fun j hj => absurd hj (by omega), none, none, rfl⟩
      (fun _ _ _ _ h => SqL.of (h.1.lst hp)) ?_ ?_
    · rintro i x σ H2 H3 hi ⟨g, hno, v1, v2, rfl⟩ ⟨T0, x1, y1, rfl, nT, rfl, hx1, hy1⟩
      cases hx1
      have hy1 : ((mid (lns t)).map V.str)[i]? = some y1 := hy1
      rw [List.getElem?_map] at hy1
      cases e : (mid (lns t))[i]? with
      | none => rw [e] at hy1; cases hy1
      | some z =>
        rw [e] at hy1
        cases hy1
        have e9 : (mid (lns t)).getD i "" = z := by rw [List.getD_eq_getElem?_getD, e]; rfl
        have hz := lns_mem (mid_mem (List.mem_of_getElem? e))
        rw [lS] at hi
        have g2 : Gr H (upd H2 T0 (.tup [.int (1 + (i : Int)), .str z])) := (gr1.trans g).upd nT
        refine ⟨T0, [.int (1 + (i : Int)), .str z], rfl, SqT.of upd_same, rfl, _, _, rfl, _, _, rfl, rfl, ?_⟩
        refine ⟨_, rfl, z, rfl, by rw [sizeLine_eq]; omega, g2.tab _ hB, fun H4 g4 => ⟨_, rfl, ?_⟩⟩
        have g5 : Gr H H4 := g2.trans g4
        cases hbz : isAddr z with
        | false =>
          refine iteT ?_
          have hbad : bad false (mid (lns t)) i = true := by
            show (!isAddr ((mid (lns t)).getD i "")) = true
            rw [e9, hbz]; rfl
          have hfk : faultN false (lns t) = some (i + 1) := by
            rw [hf, if_neg (by simp), ← ln, find_hit hi hno hbad]
            rfl
          have ei : (1 : Int) + (i : Int) = ((i + 1 : Nat) : Int) := by omega
          refine ⟨_, rfl, ?_⟩
          rw [ei]
          refine mal_end (n := i + 1) (by omega) fun d H' nd1 sm1 hd1 => ?_
          exact hE _ hfk d H' (g5.free _ nd1) (g5.trans (.of_same sm1)) hd1
        | true =>
          refine iteF ?_
          refine ⟨(g.upd nT).trans g4, fun j hj => ?_, _, _, rfl⟩
          by_cases hji : j < i
          · exact hno j hji
          · have : j = i := by omega
            subst this
            show (!isAddr ((mid (lns t)).getD j "")) = false
            rw [e9, hbz]; rfl
    · rintro σ H2 ⟨g, hno, v1, v2, rfl⟩
      have hfk : faultN false (lns t) = none := by
        rw [hf, if_neg (by simp), find_miss fun j hj => hno j (by rw [lS, ln]; exact hj)]
        rfl
      exact ⟨_, rfl, hQ hfk p H2 np (gr1.trans g) (g.lst hp)⟩
end
end LW
namespace LW
open PySem PySem.Spec PyProof.Rows L2 GxR
abbrev s_read_bundle : Stmt := topS 17
abbrev N_read_bundle : List Str := ["text", "lines", "found", "at", "line", "platform", "_", "address"]
abbrev P_read_bundle : List Str := ["text"]
theorem sc_read_bundle : FnScope N_read_bundle P_read_bundle (defScope s_read_bundle) := ⟨rfl, rfl, rfl, by decide +kernel, rfl, by decide +kernel, by decide +kernel⟩
def prt (l : Str) : Str × Str := (nam l, adr l)
def spReadB (K : PySem.W.Frag) (C B1 B2 : Addr) : Sp := fun vs H Q E => ∃ t : Str, vs = [.str t] ∧ t.length ≤ 5000 ∧ TabG H B1 ∧ TabG H B2 ∧
  (∀ k, faultN true (lns t) = some k → Out C H E k) ∧ (faultN true (lns t) = none → ∀ p ts H', H p = none → Gr H H' → H' p = some (.lst ts) → Prs K H' ts ((mid (lns t)).map prt) → Q (.ref p) H')
theorem Gr.new {H H' : Hp} {d : Addr} {o : HO} (g : Gr H H') (n : H d = none) : Gr H (L2.upd H' d o) :=
  ⟨fun b u e t => by rw [upd_ne (ne_of_none e n)]; exact g.keep b u e t, fun b t => by
    have t' := g.tab b t
    obtain ⟨ps, e, _⟩ := t
    exact tab_eq t' (upd_ne (ne_of_none e n)), fun b z => by
    by_cases h : b = d
    · rw [h]; exact n
    · rw [upd_ne h] at z; exact g.free b z⟩
theorem beh_two {w0 : Str} {ls : List Str} (h0 : ls ≠ []) (hw : w0 ≠ "") (hn : behN w0 ls = none) : 2 ≤ ls.length := by
  cases ls with
  | nil => exact absurd rfl h0
  | cons x r =>
    cases r with
    | cons _ _ => simp
    | nil =>
      exfalso
      unfold behN at hn
      by_cases h1 : ([x] : List Str).head? = some w0
      · have hx : x = w0 := Option.some.inj h1
        rw [if_neg (by rw [h1]; exact fun z => z rfl), if_pos] at hn
        · cases hn
        · intro z
          rw [hx] at z
          exact hw (Option.some.inj z)
      · rw [if_pos h1] at hn
        cases hn
theorem part_len (z : Str) : (nam z).length ≤ z.length ∧ (adr z).length ≤ z.length := by
  by_cases h : 32 ∈ TL.tl z
  · obtain ⟨a, b, e, ha⟩ := split_at _ h
    have el : z = (⟨a.toArray⟩ : Str) ++ sp ++ (⟨b.toArray⟩ : Str) := by
      apply TL.ext_tl
      rw [TL.tl_append, TL.tl_append, tl_sp]
      show _ = (a ++ [32]) ++ b
      rw [e]
      simp
    have ep : Txt.partition z sp = (⟨a.toArray⟩, sp, ⟨b.toArray⟩) := by
      rw [el]
      exact TL.partition_app tl_sp (by show 32 ∉ a; exact ha)
    have hz : z.length = a.length + 1 + b.length := by rw [TL.len_tl, e]; simp; omega
    have l1 : (⟨a.toArray⟩ : Str).length = a.length := by rw [TL.len_tl]
    have l2 : (⟨b.toArray⟩ : Str).length = b.length := by rw [TL.len_tl]
    unfold nam adr
    rw [ep]
    dsimp only
    omega
  · have ep : Txt.partition z sp = (z, Str.empty, Str.empty) := TL.partition_none tl_sp h
    unfold nam adr
    rw [ep]
    exact ⟨Nat.le_refl _, Nat.zero_le _⟩
/-- the dict behind so many lines -/
def kvsOf (ms : List Str) : List (Key × V) := ms.map fun l => (Sum.inr (nam l), V.str (adr l))
theorem val_kvs (ms : List Str) (x : Str) : (valV (kvsOf ms) (Sum.inr x)).isSome = decide (x ∈ ms.map nam) := by
  induction ms with
  | nil => rfl
  | cons m r ih =>
    unfold valV kvsOf at ih ⊢
    rw [List.map_cons, List.find?_cons]
    by_cases h : nam m = x
    · have e1 : decide ((Sum.inr (nam m) : Key) = Sum.inr x) = true := decide_eq_true (by rw [h])
      dsimp only
      rw [e1]
      have : x ∈ (m :: r).map nam := by rw [List.map_cons, h]; exact List.mem_cons_self
      rw [decide_eq_true this]
      rfl
    · have e1 : decide ((Sum.inr (nam m) : Key) = Sum.inr x) = false := decide_eq_false (fun z => h (by injection z))
      dsimp only
      rw [e1]
      dsimp only
      rw [ih]
      apply decide_eq_decide.mpr
      rw [List.map_cons, List.mem_cons]
      constructor
      · exact fun z => .inr z
      · intro z
        rcases z with z | z
        · exact absurd z.symm h
        · exact z
theorem prs_kvs {K : PySem.W.Frag} {H : Hp} : ∀ {ms : List Str} {ts : List Addr}, Paired (fun (t : Addr) (q : Key × V) => H t = some (.tup [kV q.1, q.2])) ts (kvsOf ms) → Prs K H (ts.map V.ref) (ms.map prt)
  | [], _, h => by
    cases h
    exact .nil
  | m :: r, _, h => by
    cases h with
    | cons h1 h2 => exact .cons ⟨_, rfl, h1⟩ (prs_kvs (K := K) h2)
section
variable {P : Program} {w : World} {K : PySem.W.Frag} {mg : Str → Option Value} {base : Heap} {cM cR cU : Addr}
theorem ok_read_bundle {f fM cc cda fB fI cI fL cL B1 B2 : Addr} {fd dM dB dI dL : FuncData} (F : Fun K "read_bundle" "read_bundle" s_read_bundle f fd) (T : Tx K mg cM cR cU) (M : MalAt P K mg cM fM cc cda dM)
    (DB : DefAt K mg "_lines_behind" s_lines_behind P_lines_behind fB dB) (DI : DefC K mg "is_address" s_is_address P_is_address fI dI cI) (TI : TabB base mg cI B1)
    (DL : DefC K mg "_is_platform" s_is_platform P_is_platform fL dL cL) (TL : TabB base mg cL B2) :
    FnOk P w K mg base (L2.CX P w) 4 f fd P_read_bundle (spReadB K cM B1 B2) := by
  have GM : FnOk P w K mg base CX0 1 fM dM P_init (spInit cM) := ok_init M.I T
  have GB : FnOk P w K mg base (L2.CX P w) 3 fB dB P_lines_behind (spBehind cM) := ok_lines_behind DB.fn T M
  have GI : FnOk P w K mg base CX0 1 fI dI P_is_address (spYes isAddr B1) := ok_is_address DI.fn T TI
  have GL : FnOk P w K mg base CX0 1 fL dL P_is_platform (spYes isPlat B2) := ok_is_platform DL.fn T TL
  refine F.okX sc_read_bundle (fun vs H Q E h => ?_) (fun cdv A outer s H vs Q E hr h => ?_)
  · obtain ⟨t, rfl, _⟩ := h
    rfl
  · obtain ⟨t, rfl, hl, hB1, hB2, hE, hQ⟩ := h
    have nd := sc_read_bundle.nd
    obtain ⟨tI, cBu⟩ := T.BUNDLE
    have hr2 := hr.mono (show 2 ≤ 3 by decide)
    have hr1 := hr.mono (show 1 ≤ 3 by decide)
    have hu : (A.deeper (envOfC "read_bundle" (defScope s_read_bundle) s.heap.objs.size f cdv)).units + 1 < cLine := by have := hr.units; omega
    refine ⟨_, pss_cons (ps_set (i := 1) nd rfl (Or.inl rfl) (pe_callS GB hr rfl DB.at_ DB.fn.kp DB.bd (fun σ => passAt (takes_of rfl rfl rfl rfl) σ) (pa_cons (pe_glob (v := .str "bundle") (by rfl) cBu ⟨_, rfl⟩) (pa_cons (pv 0) pa_nil))))
  (pss_cons (ps_if (pt_not (pt_truth (pv 1) (by intro _; rfl)))
    (pss_one (ps_raise rfl (takes_of rfl rfl rfl rfl) (pmk_oex M.I.S.T M.iC M.tI GM hr2 M.bI .nil pass0 rfl T.MAL (pa_cons pe_int pa_nil))))
    (pss_nil))
  (pss_cons (ps_set (i := 2) nd rfl (Or.inl rfl) pe_dnewK)
  (pss_cons (ps_for (passes_of rfl) rfl (pi_enumC (by rfl) T.enum (pa_cons (pv 1) pa_nil) (pk_cons pe_int pk_nil)) (pg_tup rfl (pgs_cons (pg_name (i := 3) nd rfl (Or.inl rfl)) (pgs_cons (pg_name (i := 4) nd rfl (Or.inl rfl)) pgs_nil)))
    (pss_cons (ps_asg (pe_partition (pv 4) pe_str) (pg_tup rfl (pgs_cons (pg_name (i := 5) nd rfl (Or.inl rfl)) (pgs_cons (pg_name (i := 6) nd rfl (Or.inl rfl)) (pgs_cons (pg_name (i := 7) nd rfl (Or.inl rfl)) pgs_nil)))))
  (pss_cons (ps_if (PW.pt (pw_or (pt_cmp (pc_din hu (pv 5) (pv 2))) (pw_or (pt_not (pt_val (pe_call GL hr1 rfl DL.at_ DL.fn.kp DL.bd .nil pass0 (pa_cons (pv 5) pa_nil)))) (pw_or1 (pt_not (pt_val (pe_call GI hr1 rfl DI.at_ DI.fn.kp DI.bd .nil pass0 (pa_cons (pv 7) pa_nil))))))))
    (pss_one (ps_raise rfl (takes_of rfl rfl rfl rfl) (pmk_oex M.I.S.T M.iC M.tI GM hr2 M.bI .nil pass0 rfl T.MAL (pa_cons (pv 3) pa_nil))))
    (pss_nil))
  (pss_one (ps_dput hu (pv 2) (pv 5) (pv 7) rfl)))))
  (pss_one (ps_ret (LiI.pe_listItems rfl (pv 2) (by rfl) T.list (by decide +kernel))))))), ?_⟩
    refine ⟨.str t, rfl, "bundle", t, rfl, by decide +kernel, hl, fun k hk d H' nd1 g1 hd1 => hE k (fault_beh (b := true) hk) d H' nd1 g1 hd1, fun hn p H1 np sm hp => ?_⟩
    have hf := fault_mid (b := true) hn
    have ln := mid_len (lns t)
    have gr1 : Gr H H1 := .of_same sm
    have lm := lns_len t
    have lS : ((mid (lns t)).map V.str).length = (mid (lns t)).length := List.length_map _
    have l2 : 2 ≤ (lns t).length := beh_two (lns_ne t) (by decide +kernel) hn
    refine ⟨.ref p, rfl, _, .inl ⟨_, SqL.of hp, rfl⟩, ?_⟩
    cases em : mid (lns t) with
    | nil =>
      have e2 : (lns t).length = 2 := by
        rw [em] at ln
        simp at ln
        omega
      have hfk : faultN true (lns t) = some 1 := by rw [hf, if_pos ⟨rfl, e2⟩]
      refine iteT ?_
      refine mal_end (n := 1) (by decide) fun d H' nd1 sm1 hd1 => ?_
      exact hE 1 hfk d H' (gr1.free _ nd1) (gr1.trans (.of_same sm1)) hd1
    | cons m0 mr =>
      have e2 : ¬ (true = true ∧ (lns t).length = 2) := by
        rintro ⟨_, h2⟩
        rw [em] at ln
        simp at ln
        omega
      rw [if_neg e2] at hf
      refine iteF ?_
      refine fun d ndd => ?_
      have ndH : H d = none := gr1.free d ndd
      refine ⟨.ref p, rfl, p, 1, _, rfl, rfl, by decide, by decide, SqL.of (by rw [upd_ne (ne_of_none hp ndd)]; exact hp), ?_⟩
      refine for_it (walk_enumC (K := K) (c := 1) (a := p) (xs := (mid (lns t)).map V.str)) (fun i σ H' => Gr H1 H' ∧ H' d = some (.dK (kvsOf ((mid (lns t)).take i))) ∧ (∀ j, j < i → bad true (mid (lns t)) j = false) ∧ ∃ v1 v2 v3 v4 v5, σ = [some (.str t), some (.ref p), some (.ref d), v1, v2, v3, v4, v5]) ⟨(Gr.refl _).new ndd, upd_same, fun j hj => absurd hj (by omega), none, none, none, none, none, rfl⟩
        (fun _ _ _ _ h => SqL.of (h.1.lst hp)) ?_ ?_
      · rintro i x σ H2 H3 hi ⟨g, hd2, hno, v1, v2, v3, v4, v5, rfl⟩ ⟨T0, x1, y1, rfl, nT, rfl, hx1, hy1⟩
        cases hx1
        have hy1 : ((mid (lns t)).map V.str)[i]? = some y1 := hy1
        rw [List.getElem?_map] at hy1
        cases e : (mid (lns t))[i]? with
        | none => rw [e] at hy1; cases hy1
        | some z =>
          rw [e] at hy1
          cases hy1
          have e9 : (mid (lns t)).getD i "" = z := by rw [List.getD_eq_getElem?_getD, e]; rfl
          have hz := lns_mem (mid_mem (List.mem_of_getElem? e))
          rw [lS] at hi
          have dT0 : d ≠ T0 := ne_of_none hd2 nT
          have g2 : Gr H1 (upd H2 T0 (.tup [.int (1 + (i : Int)), .str z])) := g.upd nT
          have hd3 : (upd H2 T0 (.tup [.int (1 + (i : Int)), .str z])) d = some (.dK (kvsOf ((mid (lns t)).take i))) := by rw [upd_ne dT0]; exact hd2
          refine ⟨T0, [.int (1 + (i : Int)), .str z], rfl, SqT.of upd_same, rfl, _, _, rfl, _, _, rfl, rfl, ?_⟩
          refine ⟨_, rfl, ⟨_, rfl⟩, z, sp, rfl, rfl, by decide +kernel, by rw [sizeLine_eq]; omega, fun q0 nq => ?_⟩
          have dq0 : d ≠ q0 := ne_of_none hd3 nq
          have g3 := g2.upd (o := .tup [.str (nam z), .str (Txt.partition z sp).2.1, .str (adr z)]) nq
          refine ⟨q0, [.str (nam z), .str (Txt.partition z sp).2.1, .str (adr z)], rfl, SqT.of upd_same, rfl, _, _, rfl, _, _, rfl, _, _, rfl, rfl, ?_⟩
          have hd4 : (upd (upd H2 T0 (.tup [.int (1 + (i : Int)), .str z])) q0 (.tup [.str (nam z), .str (Txt.partition z sp).2.1, .str (adr z)])) d = some (.dK (kvsOf ((mid (lns t)).take i))) := by rw [upd_ne dq0]; exact hd3
          have hk4 : valV (kvsOf ((mid (lns t)).take i)) (Sum.inr (nam z)) = valV (kvsOf ((mid (lns t)).take i)) (Sum.inr (nam z)) := rfl
          have hbi : bad true (mid (lns t)) i = (decide (nam z ∈ ((mid (lns t)).take i).map nam) || !isPlat (nam z) || !isAddr (adr z)) := by
            unfold bad
            rw [if_pos rfl, e9]
          have ei : (1 : Int) + (i : Int) = ((i + 1 : Nat) : Int) := by omega
          have hfk : bad true (mid (lns t)) i = true → faultN true (lns t) = some (i + 1) := fun hb => by
            rw [hf, ← ln, find_hit hi hno hb]
            rfl
          have R := fun (H4 : Hp) (g4 : Gr H1 H4) (hb : bad true (mid (lns t)) i = true) => mal_end (C := cM) (H1 := H4) (n := i + 1) (Q := E) (by omega) fun d' H' nd1 sm1 hd1 => hE _ (hfk hb) d' H' ((gr1.trans g4).free _ nd1) ((gr1.trans g4).trans (.of_same sm1)) hd1
          have ln1 : (nam z).length ≤ z.length ∧ (adr z).length ≤ z.length := part_len z
          refine ⟨_, rfl, _, rfl, d, _, rfl, DGet.k (k := Sum.inr (nam z)) hd4, _, rfl, ?_⟩
          rw [val_kvs]
          cases c1 : decide (nam z ∈ ((mid (lns t)).take i).map nam) with
          | true =>
            refine iteT (iteT ⟨_, rfl, ?_⟩)
            have q9 := R _ g3 (by rw [hbi, c1]; rfl)
            rw [← ei] at q9
            exact q9
          | false =>
            refine iteF ⟨_, rfl, nam z, rfl, by rw [sizeLine_eq]; omega, (gr1.trans g3).tab _ hB2, fun H5 g5 => ⟨_, rfl, ?_⟩⟩
            have g6 := g3.trans g5
            cases c2 : isPlat (nam z) with
            | false =>
              refine iteT (iteT ⟨_, rfl, ?_⟩)
              have q9 := R _ g6 (by rw [hbi, c1, c2]; rfl)
              rw [← ei] at q9
              exact q9
            | true =>
              refine iteF ⟨_, rfl, adr z, rfl, by rw [sizeLine_eq]; omega, (gr1.trans g6).tab _ hB1, fun H6 g7 => ⟨_, rfl, ?_⟩⟩
              have g8 := g6.trans g7
              cases c3 : isAddr (adr z) with
              | false =>
                refine iteT ⟨_, rfl, ?_⟩
                have q9 := R _ g8 (by rw [hbi, c1, c2, c3]; rfl)
                rw [← ei] at q9
                exact q9
              | true =>
                refine iteF ?_
                have hd6 : H6 d = some (.dK (kvsOf ((mid (lns t)).take i))) := (g5.trans g7).keep d _ hd4 (fun ps z => nomatch z)
                have et : (mid (lns t)).take (i + 1) = (mid (lns t)).take i ++ [z] := by rw [List.take_add_one, e]; rfl
                have ek : putK (kvsOf ((mid (lns t)).take i)) (Sum.inr (nam z)) (.str (adr z)) = kvsOf ((mid (lns t)).take (i + 1)) := by
                  rw [putK_new _ ?_, et]
                  · unfold kvsOf
                    rw [List.map_append]
                    rfl
                  · cases e0 : valV (kvsOf ((mid (lns t)).take i)) (Sum.inr (nam z)) with
                    | none => rfl
                    | some v =>
                      have := val_kvs ((mid (lns t)).take i) (nam z)
                      rw [e0, c1] at this
                      cases this
                refine ⟨_, rfl, _, rfl, _, rfl, d, _, rfl, DPut.k (k := Sum.inr (nam z)) hd6 ?_, ?_⟩
                · unfold kvsOf
                  rw [List.length_map, List.length_take, sizeLine_eq]
                  omega
                · rw [ek]
                  refine ⟨g8.new ndd, upd_same, fun j hj => ?_, _, _, _, _, _, rfl⟩
                  by_cases hji : j < i
                  · exact hno j hji
                  · have : j = i := by omega
                    subst this
                    rw [hbi, c1, c2, c3]; rfl
      · rintro σ H2 ⟨g, hd2, hno, v1, v2, v3, v4, v5, rfl⟩
        have hfk : faultN true (lns t) = none := by
          rw [hf, find_miss fun j hj => hno j (by rw [lS, ln]; exact hj)]
          rfl
        have e1 : (mid (lns t)).take ((mid (lns t)).map V.str).length = mid (lns t) := List.take_of_length_le (by rw [List.length_map]; exact Nat.le_refl _)
        rw [e1] at hd2
        refine ⟨_, rfl, d, _, rfl, hd2, fun H' q0 ts ks nq nts nin hq0 hpr => ?_⟩
        have g2 : Gr H H' := (gr1.trans g).trans (.of_same ks)
        exact hQ hfk q0 _ H' ((gr1.trans g).free _ nq) g2 hq0 (prs_kvs hpr)
end
end LW
namespace LW
open PySem PySem.Spec PyProof.Rows L2 GxR
abbrev s_references : Stmt := topS 18
abbrev N_references : List Str := ["kind", "text", "_", "address"]
abbrev P_references : List Str := ["kind", "text"]
theorem sc_references : FnScope N_references P_references (defScope s_references) := ⟨rfl, rfl, rfl, by decide +kernel, rfl, by decide +kernel, by decide +kernel⟩
/-- of a text without fault -/
def spRefs (B1 B2 : Addr) : Sp := fun vs H Q _ => ∃ (k t : Str) (ys : List Str), vs = [.str k, .str t] ∧ t.length ≤ 5000 ∧ TabG H B1 ∧ TabG H B2 ∧
  ((k = "image" ∧ faultN false (lns t) = none ∧ ys = mid (lns t)) ∨ (k = "bundle" ∧ faultN true (lns t) = none ∧ ys = (mid (lns t)).map adr) ∨ (k ≠ "image" ∧ k ≠ "bundle" ∧ ys = [])) ∧
  ∀ p H', H p = none → Gr H H' → H' p = some (.lst (ys.map V.str)) → Q (.ref p) H'
def spReadIc (B1 : Addr) : Sp := fun vs H Q _ => ∃ t : Str, vs = [.str t] ∧ t.length ≤ 5000 ∧ TabG H B1 ∧ faultN false (lns t) = none ∧ ∀ p H', H p = none → Gr H H' → H' p = some (.lst ((mid (lns t)).map V.str)) → Q (.ref p) H'
def spReadBc (K : PySem.W.Frag) (B1 B2 : Addr) : Sp := fun vs H Q _ => ∃ t : Str, vs = [.str t] ∧ t.length ≤ 5000 ∧ TabG H B1 ∧ TabG H B2 ∧ faultN true (lns t) = none ∧ ∀ p ts H', H p = none → Gr H H' → H' p = some (.lst ts) → Prs K H' ts ((mid (lns t)).map prt) → Q (.ref p) H'
/-- all that the module's texts give -/
structure Mods (P : Program) (w : World) (K : PySem.W.Frag) (mg : Str → Option Value) (base : Heap) (cM B1 B2 fR fW : Addr) (dR dW : FuncData) : Prop where
  RI : FnOk P w K mg base (L2.CX P w) 4 fR dR P_read_image (spReadI cM B1)
  aI : mg "read_image" = some (.ref fR)
  kI : PySem.W.keepIn K (.ref fR) = true
  bI : Binds K dR P_read_image []
  RB : FnOk P w K mg base (L2.CX P w) 4 fW dW P_read_bundle (spReadB K cM B1 B2)
  aB : mg "read_bundle" = some (.ref fW)
  kB : PySem.W.keepIn K (.ref fW) = true
  bB : Binds K dW P_read_bundle []
/-- the class Malformed as the law asks of it -/
structure MalIs (K : PySem.W.Frag) (cM cR cU : Addr) : Prop where
  ec : ExcC K cM
  xf : XfC K cM
  noL : PySem.W.findIn K (.ref cM) "line" = some none
  ex : PySem.W.exmOne K (.ref cM) (.ref cM) = some true
  k1 : PySem.W.kitOne K (.ref cM) (.ref cR) = some true
  k2 : PySem.W.kitOne K (.ref cM) (.type "ValueError") = some true
  k3 : PySem.W.kitOne K (.ref cM) (.ref cU) = some false
abbrev s_law_told : Stmt := topS 31
abbrev N_law_told : List Str := ["kind", "text", "e"]
abbrev P_law_told : List Str := ["kind", "text"]
theorem sc_law_told : FnScope N_law_told P_law_told (defScope s_law_told) := ⟨rfl, rfl, rfl, by decide +kernel, rfl, by decide +kernel, by decide +kernel⟩
/-- what a text is told as -/
def spTold (K : PySem.W.Frag) (B1 B2 : Addr) : Sp := fun vs H Q _ => ∃ (b : Bool) (t : Str), vs = [.str (word b), .str t] ∧ t.length ≤ 5000 ∧ TabG H B1 ∧ TabG H B2 ∧
  (∀ k, faultN b (lns t) = some k → ∀ T H', H T = none → Gr H H' → H' T = some (.tup [.str "line", .int (k : Int)]) → Q (.ref T) H') ∧
  (faultN b (lns t) = none → ∀ T p ts H', H T = none → Gr H H' → H' T = some (.tup [.str "list", .ref p]) → H' p = some (.lst ts) →
    (b = false → ts = (mid (lns t)).map V.str) → (b = true → Prs K H' ts ((mid (lns t)).map prt)) → Q (.ref T) H')
section
variable {P : Program} {w : World} {K : PySem.W.Frag} {mg : Str → Option Value} {base : Heap} {cM cR cU : Addr}
theorem eq_str (x y : Str) : decide (V.str x = V.str y) = decide (x = y) := by
  apply decide_eq_decide.mpr
  constructor
  · intro h; injection h
  · intro h; rw [h]
theorem ok_references {f fR fW B1 B2 : Addr} {fd dR dW : FuncData} (F : Fun K "references" "references" s_references f fd) (T : Tx K mg cM cR cU) (M : Mods P w K mg base cM B1 B2 fR fW dR dW) :
    FnOk P w K mg base CX0 5 f fd P_references (spRefs B1 B2) := by
  have GI : FnOk P w K mg base CX0 4 fR dR P_read_image (spReadIc B1) := calm_of M.RI fun vs H Q E h => by
    obtain ⟨t, e, hl, hB, hf, q⟩ := h
    exact ⟨t, e, hl, hB, (fun k hk => by rw [hf] at hk; cases hk), fun _ => q⟩
  have GB : FnOk P w K mg base CX0 4 fW dW P_read_bundle (spReadBc K B1 B2) := calm_of M.RB fun vs H Q E h => by
    obtain ⟨t, e, hl, hB, hB2, hf, q⟩ := h
    exact ⟨t, e, hl, hB, hB2, (fun k hk => by rw [hf] at hk; cases hk), fun _ => q⟩
  refine F.ok sc_references (fun vs H Q E h => ?_) (fun cdv A outer s H vs Q E hr h => ?_)
  · obtain ⟨k, t, ys, rfl, _⟩ := h
    rfl
  · obtain ⟨k, t, ys, rfl, hl, hB1, hB2, hc, q⟩ := h
    have nd := sc_references.nd
    obtain ⟨t1, c1⟩ := T.IMAGE
    obtain ⟨t2, c2⟩ := T.BUNDLE
    refine ⟨_, pss_cons (ps_if (pt_cmpR op_eq (pv 0) (pe_glob (v := .str "image") (by rfl) c1 ⟨_, rfl⟩) (nomark _))
    (pss_one (ps_ret (pe_call GI hr rfl M.aI M.kI M.bI .nil pass0 (pa_cons (pv 1) pa_nil))))
    (pss_nil))
  (pss_cons (ps_if (pt_cmpR op_eq (pv 0) (pe_glob (v := .str "bundle") (by rfl) c2 ⟨_, rfl⟩) (nomark _))
    (pss_one (ps_ret (pe_lc (own := [("_", 2), ("address", 3)]) (g := gTup K 2 (gCons (gName 2) (gCons (gName 3) gNil))) (tt := tYes) rfl nd (pi_list (pe_call GB hr rfl M.aB M.kB M.bB .nil pass0 (pa_cons (pv 1) pa_nil))) (blkOk_by (N := N_references) (sc := defScope s_references) (by decide +kernel)) (fun _ _ _ _ _ => (pg_tup rfl (pgs_cons (pg_name (i := 2) nd rfl (Or.inl rfl)) (pgs_cons (pg_name (i := 3) nd rfl (Or.inl rfl)) pgs_nil)))) (fun _ _ _ _ _ => pts_nil) (fun _ _ _ _ _ => (pv 3)))))
    (pss_nil))
  (pss_one (ps_ret (pe_lst pa_nil)))), ?_⟩
    refine ⟨_, rfl, rfl, _, rfl, ?_⟩
    rw [eq_str]
    rcases hc with ⟨rfl, hf, rfl⟩ | ⟨rfl, hf, rfl⟩ | ⟨n1, n2, rfl⟩
    · refine iteT ?_
      exact ⟨_, rfl, t, rfl, hl, hB1, hf, q⟩
    · refine iteF ⟨_, rfl, rfl, _, rfl, ?_⟩
      rw [eq_str]
      refine iteT ?_
      refine ⟨_, rfl, t, rfl, hl, hB1, hB2, hf, fun p ts H1 np g hp hP => ?_⟩
      have ln := hP.len
      rw [List.length_map, mid_len] at ln
      have lt := lns_len t
      refine ⟨p, rfl, ⟨_, SqL.of hp⟩, fun D nD => lc_pair (walk_list (K := K) (a := p) (xs := ts)) (vs := [2, 3]) (te := tVar 3) (fun i => .str (adr ((mid (lns t)).getD i ""))) ?_ ?_ (fun _ _ => rfl) ?_ ?_⟩
      · omega
      · intro H2 hb
        exact hb.list nD (SqL.of hp)
      · rintro i x H2 H3 hi hb ⟨rfl, hx⟩
        obtain ⟨pr, t0, ep, rfl, ht⟩ := hP.get hx
        rw [List.getElem?_map] at ep
        cases e : (mid (lns t))[i]? with
        | none => rw [e] at ep; cases ep
        | some z =>
          rw [e] at ep
          cases ep
          have e9 : (mid (lns t)).getD i "" = z := by rw [List.getD_eq_getElem?_getD, e]; rfl
          refine ⟨t0, .str (nam z), .str (adr z), rfl, rfl, SqT.of ((hb.same nD) _ _ ht), fun Q2 kk => ⟨_, rfl, ?_⟩⟩
          rw [e9] at kk
          exact kk
      · have et : ((List.range ts.length).map fun i => V.str (adr ((mid (lns t)).getD i ""))) = ((mid (lns t)).map adr).map V.str := by
          rw [ln, ← mid_len, range_map_get (fun z : Str => V.str (adr z)) ("" : Str) (mid (lns t)), List.map_map]
          rfl
        rw [et]
        exact q D _ (g.free _ nD) (g.upd nD) upd_same
    · rw [decide_eq_false n1]
      refine iteF ⟨_, rfl, rfl, _, rfl, ?_⟩
      rw [eq_str, decide_eq_false n2]
      refine iteF ⟨by show 0 ≤ sizeLine; decide, fun p np => q p _ np ((Gr.refl _).upd np) upd_same⟩
end
end LW
namespace LW
open PySem PySem.Spec PyProof.Rows L2 GxR
section
variable {P : Program} {w : World} {K : PySem.W.Frag} {mg : Str → Option Value} {base : Heap} {cM cR cU : Addr}
theorem ok_law_told {f fR fW B1 B2 : Addr} {fd dR dW : FuncData} (F : Fun K "_law_told" "_law_told" s_law_told f fd) (T : Tx K mg cM cR cU) (M : Mods P w K mg base cM B1 B2 fR fW dR dW) (MI : MalIs K cM cR cU) :
    FnOk P w K mg base CX0 5 f fd P_law_told (spTold K B1 B2) := by
  refine F.ok sc_law_told (fun vs H Q E h => ?_) (fun cdv A outer s H vs Q E hr h => ?_)
  · obtain ⟨b, t, rfl, _⟩ := h
    rfl
  · obtain ⟨b, t, rfl, hl, hB1, hB2, hk, hn⟩ := h
    have nd := sc_law_told.nd
    refine ⟨_, pss_one (ps_try_as (i := 2) (Wout := fun _ _ _ _ => False) rfl rfl nd rfl rfl ⟨rfl, by decide, Or.inl T.MAL⟩ takes0
      (fun W pn xe tk _ => pss_cons (ps_if (pt_cmpR op_eq (pv 0) pe_str (nomark _)) (pss_one (ps_ret (pe_tup (pa_cons pe_str (pa_cons (pe_callS M.RI hr rfl M.aI M.kI M.bI (fun σ => passAt tk σ) (pa_cons (pv 1) pa_nil)) pa_nil))))) pss_nil)
        (pss_one (ps_ret (pe_tup (pa_cons pe_str (pa_cons (pe_callS M.RB hr rfl M.aB M.kB M.bB (fun σ => passAt tk σ) (pa_cons (pv 1) pa_nil)) pa_nil))))))
      (fun a oe cls d pn hz hf => pss_cons (ps_if (PW.pt (pw_or (pt_not (pt_val (pe_callB (call_isD MI.ec hz hf) (by rfl) T.isi (by decide +kernel) (pa_cons (pv 2) (pa_cons (pe_glob (v := .ref cR) (by rfl) T.REF rfl) pa_nil)))))
          (pw_or (pt_not (pt_val (pe_callB (call_isD MI.ec hz hf) (by rfl) T.isi (by decide +kernel) (pa_cons (pv 2) (pa_cons (pe_bltn (v := .ty "ValueError") (by rfl) T.val (by decide +kernel) rfl) pa_nil)))))
            (pw_or1 (pt_val (pe_callB (call_isD MI.ec hz hf) (by rfl) T.isi (by decide +kernel) (pa_cons (pv 2) (pa_cons (pe_glob (v := .ref cU) (by rfl) T.MIS rfl) pa_nil))))))))
        (pss_one (ps_ret (pe_tup (pa_cons pe_str (pa_cons pe_int pa_nil))))) pss_nil)
        (pss_one (ps_ret (pe_tup (pa_cons pe_str (pa_cons (pe_xf MI.xf MI.noL hz hf (pv 2)) pa_nil))))))), ?_⟩
    have caught : ∀ (b : Bool) (k : Nat), faultN b (lns t) = some k → (∀ k, faultN b (lns t) = some k → ∀ T H', H T = none → Gr H H' → H' T = some (.tup [.str "line", .int (k : Int)]) → Q (.ref T) H') →
        ∀ (d : Addr) (H' : Hp), Gr H H' → H' d = some (.xd [(("line" : Str), .int (k : Int))]) → ∀ T, H' T = none → Q (.ref T) (upd H' T (.tup [.str "line", .int (k : Int)])) :=
      fun b k hfk hk d H' g hd T nT => hk k hfk T _ (g.free T nT) (g.upd nT) upd_same
    have sz2 : ∀ x y : V, [x, y].length ≤ sizeLine := fun x y => by show 2 ≤ sizeLine; decide
    refine ⟨_, rfl, rfl, _, rfl, ?_⟩
    rw [eq_str]
    cases b with
    | false =>
      refine iteT ?_
      refine ⟨_, rfl, t, rfl, hl, hB1, fun k hfk d H' nd1 g1 hd1 => ?_, fun hfn p H' np g hp => ⟨sz2 _ _, fun T nT => ?_⟩⟩
      · refine ⟨true, MI.ex, fun _ a na => ?_, fun z => Bool.noConfusion z⟩
        refine ⟨_, rfl, rfl, d, _, rfl, hd1, .ref cR, _, true, rfl, fun u r => r, MI.k1, _, rfl, iteF ?_⟩
        refine ⟨_, rfl, rfl, d, _, rfl, hd1, .ty "ValueError", _, true, rfl, fun u r => r, MI.k2, _, rfl, iteF ?_⟩
        refine ⟨_, rfl, rfl, d, _, rfl, hd1, .ref cU, _, false, rfl, fun u r => r, MI.k3, _, rfl, iteF ?_⟩
        refine ⟨_, rfl, rfl, rfl, d, _, _, rfl, hd1, rfl, sz2 _ _, fun T nT => ?_⟩
        exact caught false k hfk hk d H' g1 hd1 T nT
      · exact hn hfn T p _ _ (g.free T nT) (g.upd nT) upd_same (by rw [upd_ne (ne_of_none hp nT)]; exact hp) (fun _ => rfl) (fun z => Bool.noConfusion z)
    | true =>
      refine iteF ?_
      refine ⟨_, rfl, t, rfl, hl, hB1, hB2, fun k hfk d H' nd1 g1 hd1 => ?_, fun hfn p ts H' np g hp hP => ⟨sz2 _ _, fun T nT => ?_⟩⟩
      · refine ⟨true, MI.ex, fun _ a na => ?_, fun z => Bool.noConfusion z⟩
        refine ⟨_, rfl, rfl, d, _, rfl, hd1, .ref cR, _, true, rfl, fun u r => r, MI.k1, _, rfl, iteF ?_⟩
        refine ⟨_, rfl, rfl, d, _, rfl, hd1, .ty "ValueError", _, true, rfl, fun u r => r, MI.k2, _, rfl, iteF ?_⟩
        refine ⟨_, rfl, rfl, d, _, rfl, hd1, .ref cU, _, false, rfl, fun u r => r, MI.k3, _, rfl, iteF ?_⟩
        refine ⟨_, rfl, rfl, rfl, d, _, _, rfl, hd1, rfl, sz2 _ _, fun T nT => ?_⟩
        exact caught true k hfk hk d H' g1 hd1 T nT
      · exact hn hfn T p ts _ (g.free T nT) (g.upd nT) upd_same (by rw [upd_ne (ne_of_none hp nT)]; exact hp) (fun z => Bool.noConfusion z) (fun _ => hP.mono ((Gr.refl _).upd nT))
end
end LW
namespace LW
open PySem PySem.Spec PyProof.Rows L2 GxR
abbrev s_law_state : Stmt := topS 23
abbrev N_law_state : List Str := ["script", "cells", "cell"]
abbrev P_law_state : List Str := ["script"]
theorem sc_law_state : FnScope N_law_state P_law_state (defScope s_law_state) := ⟨rfl, rfl, rfl, by decide +kernel, rfl, by decide +kernel, by decide +kernel⟩
abbrev s_law_take : Stmt := topS 24
abbrev N_law_take : List Str := ["state", "most", "cells", "at", "cell", "mixed"]
abbrev P_law_take : List Str := ["state", "most"]
theorem sc_law_take : FnScope N_law_take P_law_take (defScope s_law_take) := ⟨rfl, rfl, rfl, by decide +kernel, rfl, by decide +kernel, by decide +kernel⟩
section
variable {P : Program} {w : World} {K : PySem.W.Frag} {mg : Str → Option Value} {base : Heap} {cM cR cU : Addr}
theorem ok_state {f : Addr} {fd : FuncData} (F : Fun K "_law_state" "_law_state" s_law_state f fd) (T : Tx K mg cM cR cU) : FnOk P w K mg base CX0 1 f fd P_law_state (spState K) := by
  refine F.ok sc_law_state (fun vs H Q E h => ?_) (fun cdv A outer s H vs Q E hr h => ?_)
  · obtain ⟨l, ns, rfl, _⟩ := h
    rfl
  · obtain ⟨l, ns, rfl, hS, hl, q⟩ := h
    have nd := sc_law_state.nd
    refine ⟨_, pss_cons (ps_setLc (i := 1) (own := [("cell", 2)]) (g := gName 2) (tt := tYes) rfl nd rfl rfl (sw_true rfl rfl rfl (by decide +kernel)) (pi_list (pe_slice sl_list (pv 0) po_none (po_some pe_int))) (blkOk_by (N := N_law_state) (sc := defScope s_law_state) (by decide +kernel)) (fun _ _ _ _ _ => (pg_name (i := 2) nd rfl (Or.inl rfl))) (fun _ _ _ _ _ => pts_nil) (fun _ _ _ _ _ => (pe_callB call_abs (by rfl) T.abs (by decide +kernel) (pa_cons (pv 2) pa_nil))))
  (pss_cons (ps_if (pt_cmpR op_eq (pe_callB call_len_seq (by rfl) T.len (by decide +kernel) (pa_cons (pv 1) pa_nil)) pe_int (nomark _))
    (pss_one (ps_set (i := 1) nd rfl (.inl rfl) (pe_lst (pa_cons pe_int pa_nil))))
    (pss_nil))
  (pss_one (ps_ret (pe_lst (pa_cons pe_int (pa_cons (pv 1) pa_nil)))))), ?_⟩
    obtain ⟨zs, ez, lz, _⟩ := cutV_map V.int ns none (some 63)
    refine ⟨.ref l, rfl, 63, rfl, l, _, rfl, hS, fun p np => ?_⟩
    rw [ez]
    have s1 : Same H (upd H p (.lst (zs.map V.int))) := same_upd np
    refine ⟨p, rfl, ⟨_, SqL.of upd_same⟩, fun D nD => lc_map (walk_list (K := K) (a := p) (xs := zs.map V.int)) (σ := [some (.ref l), none, none]) (vs := [2])
      (fun i => .int (if zs.getD i 0 < 0 then -zs.getD i 0 else zs.getD i 0)) ?_ ?_ (fun _ => rfl) ?_ ?_⟩
    · rw [List.length_map]
      exact Nat.lt_of_le_of_lt (Nat.le_trans lz hl) (by decide)
    · intro H2 hb
      exact hb.list nD (SqL.of upd_same)
    · rintro i x H2 H3 hi hb ⟨rfl, hx⟩
      rw [List.getElem?_map] at hx
      cases e : zs[i]? with
      | none => rw [e] at hx; cases hx
      | some z =>
        rw [e] at hx
        cases hx
        refine ⟨rfl, fun Q2 k => ⟨_, rfl, z, rfl, ?_⟩⟩
        have : zs.getD i 0 = z := by rw [List.getD_eq_getElem?_getD, e]; rfl
        rw [this] at k
        exact k
    · rw [List.length_map]
      have em : ((List.range zs.length).map fun i => V.int (if zs.getD i 0 < 0 then -zs.getD i 0 else zs.getD i 0)) = (zs.map fun z => if z < 0 then -z else z).map V.int := by
        rw [range_map_get (fun z : Int => V.int (if z < 0 then -z else z)) 0 zs, List.map_map]
        rfl
      rw [em]
      have s2 : Same H (upd (upd H p (.lst (zs.map V.int))) D (.lst ((zs.map fun z => if z < 0 then -z else z).map V.int))) := s1.trans (same_upd nD)
      have fin : ∀ (c : Addr) (cs : List Int) (H2 : Hp), Same H H2 → H c = none → H2 c = some (.lst (cs.map V.int)) → 0 < cs.length → cs.length ≤ 63 → (∀ z ∈ cs, 0 ≤ z) →
          ∀ x, H2 x = none → Q (.ref x) (upd H2 x (.lst [.int 0, .ref c])) := by
        intro c cs H2 sm nc hc h0 h63 hnn x nx
        have ncx : c ≠ x := ne_of_none hc nx
        refine q x c _ (sm.free nx) nc (sm.trans (same_upd nx)) ⟨0, cs, upd_same, ?_, ncx.symm, h0, h63, hnn, by omega⟩
        rw [upd_ne ncx]
        exact hc
      refine ⟨_, rfl, D, _, rfl, .inl (SqL.of upd_same), rfl, _, rfl, ite2 (fun e => ?_) (fun e => ?_)⟩
      · refine ⟨by show 1 ≤ sizeLine; decide, fun c nc => ?_⟩
        refine ⟨_, rfl, by show 2 ≤ sizeLine; decide, ?_⟩
        exact fin c [0] _ (s2.trans (same_upd nc)) (s2.free nc) upd_same (by decide) (by decide) (by decide)
      · refine ⟨_, rfl, by show 2 ≤ sizeLine; decide, ?_⟩
        refine fin D (zs.map fun z => if z < 0 then -z else z) _ s2 (s1.free nD) upd_same ?_ ?_ ?_
        · have e' := of_decide_eq_false (eq_false_of_ne_true e)
          rw [List.length_map]
          rw [List.length_map, List.length_map] at e'
          rcases Nat.eq_zero_or_pos zs.length with h | h
          · exact absurd (by rw [h]; rfl) e'
          · exact h
        · rw [List.length_map]
          omega
        · intro z hz
          obtain ⟨y, _, rfl⟩ := List.mem_map.mp hz
          split <;> omega
theorem ok_take {f : Addr} {fd : FuncData} (F : Fun K "_law_take" "_law_take" s_law_take f fd) (z_len : mg "len" = none) (z_int : mg "int" = none) : FnOk P w K mg base CX0 1 f fd P_law_take spTake := by
  refine F.ok sc_law_take (fun vs H Q E h => ?_) (fun cdv A outer s H vs Q E hr h => ?_)
  · obtain ⟨a, c, m, rfl, _⟩ := h
    rfl
  · obtain ⟨a, c, m, rfl, ⟨n, cs, ha, hc, hac, h0, h63, hnn, hn⟩, hm1, hm2, q⟩ := h
    have nd := sc_law_take.nd
    refine ⟨_, pss_cons (ps_set (i := 2) nd rfl (.inl rfl) (pe_ix ix_list (pv 0) pe_int (fun _ _ => rfl)))
  (pss_cons (ps_set (i := 3) nd rfl (.inl rfl) (pe_op op_mod (pe_ix ix_list (pv 0) pe_int (fun _ _ => rfl)) (pe_callB call_len_seq (by rfl) z_len (by decide +kernel) (pa_cons (pv 2) pa_nil))))
  (pss_cons (ps_set (i := 4) nd rfl (.inl rfl) (pe_ix ix_list (pv 2) (pv 3) (fun _ _ => rfl)))
  (pss_cons (ps_if (pt_cmpR op_ge (pv 4) pe_int (nomark _))
    (pss_cons (ps_asg (pe_op op_fdiv (pv 4) (pv 1)) (pg_sub (pv 2) (pv 3) set_list))
  (pss_one (ps_ret (pe_op op_mod (pv 4) (pv 1)))))
    (pss_nil))
  (pss_cons (ps_asg (pe_op op_add (pe_ix ix_list (pv 0) pe_int (fun _ _ => rfl)) pe_int) (pg_sub (pv 0) pe_int set_list))
  (pss_cons (ps_set (i := 5) nd rfl (.inl rfl) (pe_op op_mod (pe_callTy call_int1 (by rfl) z_int (by decide +kernel) (pa_cons (pe_op op_add (pe_op op_mul (pv 4) pe_int) (pe_op op_mul (pe_ix ix_list (pv 0) pe_int (fun _ _ => rfl)) pe_int)) pa_nil)) pe_int))
  (pss_cons (ps_set (i := 5) nd rfl (.inl rfl) (pe_op op_mod (pe_callTy call_int1 (by rfl) z_int (by decide +kernel) (pa_cons (pe_op op_add (pe_op op_mul (pv 5) pe_int) (pe_op op_mul (pe_ix ix_list (pv 0) pe_int (fun _ _ => rfl)) pe_int)) pa_nil)) pe_int))
  (pss_one (ps_ret (pe_op op_mod (pe_op op_fdiv (pv 5) pe_int) (pv 1)))))))))), ?_⟩
    have hA : SqL K H a [.int n, .ref c] := SqL.of ha
    have hC : SqL K H c (cs.map V.int) := SqL.of hc
    have hl : (0 : Int) < (((cs.map V.int).length : Nat) : Int) := by rw [List.length_map]; omega
    have e0 : 0 ≤ n % ((cs.map V.int).length : Int) := Int.emod_nonneg _ (by omega)
    have e1 : n % ((cs.map V.int).length : Int) < ((cs.map V.int).length : Int) := Int.emod_lt_of_pos _ hl
    obtain ⟨j, hj⟩ : ∃ j : Nat, n % ((cs.map V.int).length : Int) = (j : Int) := ⟨_, (Int.toNat_of_nonneg e0).symm⟩
    have hjl : j < cs.length := by rw [List.length_map] at e1; rw [List.length_map] at hj; omega
    have gz : (cs.map V.int)[j]? = some (.int cs[j]) := by rw [List.getElem?_map, List.getElem?_eq_getElem hjl]; rfl
    have hz0 : 0 ≤ cs[j] := hnn _ (List.getElem_mem hjl)
    -- cells = state[1]; at = state[0] % len(cells); cell = cells[at]
    refine ⟨.ref a, rfl, a, _, 1, _, rfl, rfl, hA, at2_1, ?_⟩
    refine ⟨.ref a, rfl, a, _, 0, _, rfl, rfl, hA, at2_0, .ref c, rfl, c, _, rfl, .inl hC, _, _, rfl, rfl, hl, ?_⟩
    refine ⟨.ref c, rfl, _, rfl, c, _, _, .int cs[j], rfl, rfl, hC, by rw [hj]; exact atI_nat gz, ?_⟩
    -- if cell >= ..
    refine ⟨_, rfl, _, _, rfl, rfl, _, rfl, ite2 (fun _ => ?_) (fun _ => ?_)⟩
    · refine ⟨_, rfl, _, rfl, cs[j], m, rfl, rfl, ⟨by omega, by omega⟩, .ref c, rfl, _, rfl, c, _, _, j, rfl, rfl, hc, ?_, ?_⟩
      · unfold ixN
        rw [hj, List.length_map, if_pos (by omega), if_pos (by omega)]
        rfl
      · refine ⟨_, rfl, _, rfl, cs[j], m, rfl, rfl, by omega, ?_⟩
        refine q _ _ (Int.emod_nonneg _ (by omega)) (Int.emod_lt_of_pos _ (by omega)) (fun b _ hb => upd_ne hb) ⟨n, cs.set j (cs[j] / m), ?_, ?_, hac, by rw [List.length_set]; exact h0, by rw [List.length_set]; exact h63, ?_, hn⟩
        · rw [upd_ne hac]; exact ha
        · rw [upd_same, List.map_set]
        · intro z hz
          rcases List.mem_or_eq_of_mem_set hz with h | h
          · exact hnn z h
          · rw [h]; exact Int.ediv_nonneg hz0 (by omega)
    · refine ⟨.ref a, rfl, a, _, 0, _, rfl, rfl, hA, at2_0, n, 1, rfl, rfl, .ref a, rfl, a, _, 0, 0, rfl, rfl, ha, rfl, ?_⟩
      have ha' : (upd H a (.lst [.int (n + 1), .ref c])) a = some (.lst [.int (n + 1), .ref c]) := upd_same
      have hA' : SqL K (upd H a (.lst [.int (n + 1), .ref c])) a [.int (n + 1), .ref c] := SqL.of ha'
      refine ⟨_, rfl, cs[j], _, rfl, rfl, .inr ⟨by decide, by decide⟩, .ref a, rfl, a, _, 0, _, rfl, rfl, hA', at2_0, _, _, rfl, rfl, .inr ⟨by decide, by decide⟩, _, _, rfl, rfl, .inl ⟨_, rfl, ?_⟩⟩
      refine ⟨_, _, rfl, rfl, by show (0 : Int) < 2147483647; decide, ?_⟩
      refine ⟨_, rfl, _, _, rfl, rfl, .inr ⟨by decide, by decide⟩, .ref a, rfl, a, _, 0, _, rfl, rfl, hA', at2_0, _, _, rfl, rfl, .inr ⟨by decide, by decide⟩, _, _, rfl, rfl, .inl ⟨_, rfl, ?_⟩⟩
      refine ⟨_, _, rfl, rfl, by show (0 : Int) < 1000000007; decide, ?_⟩
      refine ⟨_, rfl, _, _, rfl, rfl, ⟨by decide, by decide⟩, _, rfl, _, m, rfl, rfl, by omega, ?_⟩
      refine q _ _ (Int.emod_nonneg _ (by omega)) (Int.emod_lt_of_pos _ (by omega)) (fun b hb _ => upd_ne hb) ⟨n + 1, cs, ha', ?_, hac, h0, h63, hnn, by omega⟩
      rw [upd_ne (Ne.symm hac)]
      exact hc
end
end LW
namespace LW
open PySem PySem.Spec PyProof.Rows L2 GxR
/-- all is kept but the law's state -/
structure Mv (a c : Addr) (H H' : Hp) : Prop where
  keep : ∀ b o, b ≠ a → b ≠ c → H b = some o → H' b = some o
  free : ∀ b, H' b = none → H b = none
theorem Mv.refl (a c : Addr) (H : Hp) : Mv a c H H := ⟨fun _ _ _ _ e => e, fun _ n => n⟩
theorem Mv.trans {a c : Addr} {H H1 H2 : Hp} (m : Mv a c H H1) (n : Mv a c H1 H2) : Mv a c H H2 := ⟨fun b o h1 h2 e => n.keep b o h1 h2 (m.keep b o h1 h2 e), fun b z => m.free b (n.free b z)⟩
theorem Mv.same {a c : Addr} {H H' : Hp} (s : Same H H') : Mv a c H H' := ⟨fun b o _ _ e => s b o e, fun b n => s.free n⟩
theorem Mv.take {a c : Addr} {H H' : Hp} (s : SL H a c) (s' : SL H' a c) (e : ∀ b, b ≠ a → b ≠ c → H' b = H b) : Mv a c H H' := ⟨fun b o h1 h2 z => by rw [e b h1 h2]; exact z, fun b z => by
  by_cases h1 : b = a
  · obtain ⟨n, cs, q, _⟩ := s'
    rw [h1, q] at z; cases z
  · by_cases h2 : b = c
    · obtain ⟨n, cs, _, q, _⟩ := s'
      rw [h2, q] at z; cases z
    · rw [← e b h1 h2]; exact z⟩
theorem Mv.new {a c : Addr} {H H' : Hp} {p : Addr} {o : HO} (m : Mv a c H H') (n : H p = none) : Mv a c H (L2.upd H' p o) := ⟨fun b u h1 h2 e => by rw [upd_ne (ne_of_none e n)]; exact m.keep b u h1 h2 e, fun b z => by
  by_cases h : b = p
  · rw [h]; exact n
  · rw [upd_ne h] at z; exact m.free b z⟩
theorem Mv.tab {a c : Addr} {H H' : Hp} {B : Addr} (m : Mv a c H H') (s : SL H a c) (t : TabG H B) : TabG H' B := by
  have n := s.tab t
  obtain ⟨ps, e, r⟩ := t
  exact ⟨ps, m.keep _ _ n.1 n.2 e, r⟩
theorem join_one (xs : List Nat) : TL.tl (Txt.join (Str.ofString "") (xs.map fun c => (⟨#[c]⟩ : Str))) = xs := by
  rw [TL.join_eq, TL.tl_join, tl_empty, joinL_nil, List.map_map]
  induction xs with
  | nil => rfl
  | cons z r ih =>
    rw [List.map_cons, List.flatten_cons, ih]
    rfl
abbrev s_law_address : Stmt := topS 26
abbrev N_law_address : List Str := ["state", "k"]
abbrev P_law_address : List Str := ["state"]
theorem sc_law_address : FnScope N_law_address P_law_address (defScope s_law_address) := ⟨rfl, rfl, rfl, by decide +kernel, rfl, by decide +kernel, by decide +kernel⟩
/-- an address at will -/
def spAddr : Sp := fun vs H Q _ => ∃ (a c : Addr), vs = [.ref a] ∧ SL H a c ∧ ∀ x H', isAddr x = true → SL H' a c → Mv a c H H' → Q (.str x) H'
abbrev s_law_entries : Stmt := topS 27
abbrev N_law_entries : List Str := ["state", "names", "first", "k"]
abbrev P_law_entries : List Str := ["state"]
theorem sc_law_entries : FnScope N_law_entries P_law_entries (defScope s_law_entries) := ⟨rfl, rfl, rfl, by decide +kernel, rfl, by decide +kernel, by decide +kernel⟩
def spEntries (K : PySem.W.Frag) : Sp := fun vs H Q _ => ∃ (a c : Addr), vs = [.ref a] ∧ SL H a c ∧ ∀ p ts es H', H p = none → H' p = some (.lst ts) → Prs K H' ts es → (∀ q ∈ es, isPlat q.1 = true ∧ isAddr q.2 = true) → (es.map (·.1)).Nodup → 1 ≤ es.length → es.length ≤ 6 →
  p ≠ a → p ≠ c → SL H' a c → Mv a c H H' → Q (.ref p) H'
def six : List Str := ["mill", "yard", "a", "abcdefghij", "zz", "dock"]
theorem six_plat : ∀ x ∈ six, isPlat x = true := by decide +kernel
theorem six_nodup (f n : Nat) (hf : f < 6) (hn : n ≤ 6) : ((List.range n).map fun k => six.getD ((f + k) % 6) "").Nodup := by
  have key : ∀ f : Fin 6, ((List.range 6).map fun k => six.getD ((f.val + k) % 6) "").Nodup := by decide +kernel
  refine (key ⟨f, hf⟩).sublist (List.Sublist.map _ ?_)
  exact List.range_sublist.mpr hn
section
variable {P : Program} {w : World} {K : PySem.W.Frag} {mg : Str → Option Value} {base : Heap} {cM cR cU : Addr}
theorem ok_address {f fT : Addr} {fd dT : FuncData} (F : Fun K "_law_address" "_law_address" s_law_address f fd) (T : Tx K mg cM cR cU) (DT : DefAt K mg "_law_take" s_law_take P_law_take fT dT) : FnOk P w K mg base CX0 2 f fd P_law_address spAddr := by
  have GT : FnOk P w K mg base CX0 1 fT dT P_law_take spTake := ok_take DT.fn T.len T.int
  refine F.ok sc_law_address (fun vs H Q E h => ?_) (fun cdv A outer s H vs Q E hr h => ?_)
  · obtain ⟨a, c, rfl, _⟩ := h
    rfl
  · obtain ⟨a, c, rfl, s0, q⟩ := h
    have nd := sc_law_address.nd
    refine ⟨_, pss_one (ps_ret (pe_join pe_str (pe_lc (own := [("k", 1)]) (g := gName 1) (tt := tYes) rfl nd (pi_range1 (by rfl) T.range (pa_cons pe_int pa_nil)) (blkOk_by (N := N_law_address) (sc := defScope s_law_address) (by decide +kernel)) (fun _ _ _ _ _ => (pg_name (i := 1) nd rfl (Or.inl rfl))) (fun _ _ _ _ _ => pts_nil) (fun _ _ _ _ _ => (pe_ix ix_str pe_str (pe_call GT hr rfl DT.at_ DT.fn.kp DT.bd .nil pass0 (pa_cons (pv 0) (pa_cons pe_int pa_nil))) (fun _ _ => rfl)))))), ?_⟩
    refine ⟨⟨_, rfl⟩, 16, rfl, by decide, by decide, fun D nD => ?_⟩
    have nDa := s0.ne nD
    refine lc_range (lo := 0) (n := 16) (fun i H' => ∃ xs : List Nat, xs.length = i ∧ (∀ z ∈ xs, z ∈ hexDigits) ∧ H' D = some (.lst (xs.map fun c => V.str ⟨#[c]⟩)) ∧ SL H' a c ∧ Mv a c H H')
      ⟨[], rfl, (by simp), upd_same, s0.same (same_upd nD), (Mv.refl a c H).new nD⟩ ?_ ?_
    · rintro i H4 hi ⟨xs, lx, hx, hD, s4, m4⟩
      refine ⟨rfl, tyes ?_⟩
      refine ⟨_, rfl, a, c, 16, rfl, s4, by decide, by decide, fun v H5 v0 v16 e5 s5 => ?_⟩
      obtain ⟨z, rfl, hz16⟩ := nat_of v0 v16
      have hzl : z < hexDigits.length := by show z < 16; omega
      refine ⟨_, _, hexDigits[z], rfl, rfl, by decide +kernel, ?_, _, by rw [e5 D nDa.1 nDa.2]; exact hD, ?_, xs ++ [hexDigits[z]], by simp [lx], ?_, ?_, ?_, ?_⟩
      · rw [digits_eq]
        exact atI_nat (List.getElem?_eq_getElem hzl)
      · rw [List.length_map, lx]
        exact Nat.lt_of_lt_of_le (show i < 16 by omega) (by decide)
      · intro y hy
        rcases List.mem_append.mp hy with h | h
        · exact hx y h
        · rw [List.mem_singleton.mp h]
          exact List.getElem_mem hzl
      · rw [upd_same, List.map_append]
        rfl
      · exact s5.eq (upd_ne nDa.1.symm) (upd_ne nDa.2.symm)
      · exact (m4.trans (Mv.take s4 s5 e5)).new nD
    · rintro H4 ⟨xs, lx, hx, hD, s4, m4⟩
      have et : (xs.map fun c => V.str (⟨#[c]⟩ : Str)) = (xs.map fun c => (⟨#[c]⟩ : Str)).map V.str := by rw [List.map_map]; rfl
      rw [et] at hD
      refine ⟨_, D, xs.map fun c => (⟨#[c]⟩ : Str), rfl, rfl, .inl (SqL.of hD), ?_, ?_⟩
      · have := sum_le (fun l : Str => l.length) 1 (xs.map fun c => (⟨#[c]⟩ : Str)) fun x hx => by
          obtain ⟨y, hy, rfl⟩ := List.mem_map.mp hx
          exact Nat.le_refl 1
        have z : (Str.ofString "").length = 0 := by decide +kernel
        rw [z, Nat.mul_zero, Nat.add_zero]
        refine Nat.le_trans this ?_
        rw [List.length_map]
        omega
      · refine q _ H4 ?_ s4 m4
        have tj := join_one xs
        unfold isAddr
        rw [Bool.and_eq_true]
        refine ⟨decide_eq_true ?_, List.all_eq_true.mpr fun y hy => ?_⟩
        · rw [TL.len_tl, tj, lx]
        · have hy' : y ∈ xs := by rw [← tj]; exact hy
          exact decide_eq_true (hx y hy')
theorem prs_add {H : Hp} {ts : List V} {es : List (Str × Str)} {t : Addr} {p : Str × Str} (h : Prs K H ts es) (ht : H t = some (.tup [.str p.1, .str p.2])) : Prs K H (ts ++ [.ref t]) (es ++ [p]) := by
  induction h with
  | nil => exact .cons ⟨t, rfl, ht⟩ .nil
  | cons r _ ih => exact .cons r ih
theorem prs_mv {a c : Addr} {H H' : Hp} {ts : List V} {es : List (Str × Str)} (h : Prs K H ts es) (s : SL H a c) (m : Mv a c H H') : Prs K H' ts es := by
  obtain ⟨n, cs, e1, e2, _⟩ := s
  induction h with
  | nil => exact .nil
  | cons r _ ih =>
    obtain ⟨t, e, ht⟩ := r
    exact .cons ⟨t, e, m.keep t _ (ne_of ht e1 (by intro z; cases z)) (ne_of ht e2 (by intro z; cases z)) ht⟩ ih
theorem ok_entries {f fT fA : Addr} {fd dT dA : FuncData} (F : Fun K "_law_entries" "_law_entries" s_law_entries f fd) (T : Tx K mg cM cR cU) (DT : DefAt K mg "_law_take" s_law_take P_law_take fT dT)
    (DA : DefAt K mg "_law_address" s_law_address P_law_address fA dA) : FnOk P w K mg base CX0 3 f fd P_law_entries (spEntries K) := by
  have GT : FnOk P w K mg base CX0 1 fT dT P_law_take spTake := ok_take DT.fn T.len T.int
  have GA : FnOk P w K mg base CX0 2 fA dA P_law_address spAddr := ok_address DA.fn T DT
  refine F.ok sc_law_entries (fun vs H Q E h => ?_) (fun cdv A outer s H vs Q E hr h => ?_)
  · obtain ⟨a, c, rfl, _⟩ := h
    rfl
  · obtain ⟨a, c, rfl, s0, q⟩ := h
    have nd := sc_law_entries.nd
    have hr1 := hr.mono (show 1 ≤ 2 by decide)
    refine ⟨_, pss_cons (ps_set (i := 1) nd rfl (.inr rfl) (pe_lst (pa_cons pe_str (pa_cons pe_str (pa_cons pe_str (pa_cons pe_str (pa_cons pe_str (pa_cons pe_str pa_nil))))))))
  (pss_cons (ps_set (i := 2) nd rfl (.inr rfl) (pe_call GT hr1 rfl DT.at_ DT.fn.kp DT.bd .nil pass0 (pa_cons (pv 0) (pa_cons pe_int pa_nil))))
  (pss_one (ps_ret (pe_lc (own := [("k", 3)]) (g := gName 3) (tt := tYes) rfl nd (pi_range1 (by rfl) T.range (pa_cons (pe_op op_add pe_int (pe_call GT hr1 rfl DT.at_ DT.fn.kp DT.bd .nil pass0 (pa_cons (pv 0) (pa_cons pe_int pa_nil)))) pa_nil)) (blkOk_by (N := N_law_entries) (sc := defScope s_law_entries) (by decide +kernel)) (fun _ _ _ _ _ => (pg_name (i := 3) nd rfl (Or.inl rfl))) (fun _ _ _ _ _ => pts_nil) (fun _ _ _ _ _ => (pe_tup (pa_cons (pe_ix (show IxR _ (rIxL K) from ix_list) (pv 1) (pe_op op_mod (pe_op op_add (pv 2) (pv 3)) pe_int) (fun _ _ => rfl)) (pa_cons (pe_call GA hr rfl DA.at_ DA.fn.kp DA.bd .nil pass0 (pa_cons (pv 0) pa_nil)) pa_nil)))))))), ?_⟩
    refine ⟨by show 6 ≤ sizeLine; decide, fun p np => ?_⟩
    have npa := s0.ne np
    have s1 := s0.same (same_upd (o := .lst [.str "mill", .str "yard", .str "a", .str "abcdefghij", .str "zz", .str "dock"]) np)
    have hp1 : (upd H p (.lst [.str "mill", .str "yard", .str "a", .str "abcdefghij", .str "zz", .str "dock"])) p = some (.lst (six.map V.str)) := upd_same
    refine ⟨_, rfl, a, c, 6, rfl, s1, by decide, by decide, fun v H2 v0 v6 e2 s2 => ?_⟩
    obtain ⟨fi, rfl, hf6⟩ := nat_of v0 v6
    refine ⟨_, rfl, a, c, 6, rfl, s2, by decide, by decide, fun u H3 u0 u6 e3 s3 => ?_⟩
    obtain ⟨n0, rfl, hn6⟩ := nat_of u0 u6
    have m3 : Mv a c H H3 := (((Mv.refl a c H).new np).trans (Mv.take s1 s2 e2)).trans (Mv.take s2 s3 e3)
    have hp3 : H3 p = some (.lst (six.map V.str)) := by rw [e3 p npa.1 npa.2, e2 p npa.1 npa.2]; exact hp1
    have en : (1 : Int) + (n0 : Int) = ((n0 + 1 : Nat) : Int) := by omega
    refine ⟨_, _, rfl, rfl, _, rfl, by omega, by omega, fun D nD => ?_⟩
    rw [en]
    show ∃ W : Nat → Nat → Hp → Prop, _
    have nDa := s3.ne nD
    have npD : p ≠ D := ne_of_none hp3 nD
    refine lc_range (lo := 0) (n := n0 + 1) (fun i H' => ∃ (ts : List V) (es : List (Str × Str)), es.map (·.1) = ((List.range i).map fun k => six.getD ((fi + k) % 6) "") ∧ (∀ x ∈ es, isPlat x.1 = true ∧ isAddr x.2 = true) ∧ H' D = some (.lst ts) ∧ Prs K H' ts es ∧ ts.length = i ∧ H' p = some (.lst (six.map V.str)) ∧ SL H' a c ∧ Mv a c H3 H')
      ⟨[], [], rfl, (by simp), upd_same, .nil, rfl, by rw [upd_ne npD]; exact hp3, s3.same (same_upd nD), (Mv.refl a c H3).new nD⟩ ?_ ?_
    · rintro i H4 hi ⟨ts, es, en1, hes, hD, hP, lt, hp4, s4, m4⟩
      refine ⟨rfl, tyes ?_⟩
      have hx : six[(fi + i) % 6]? = some (six.getD ((fi + i) % 6) "") := by
        have hl : (fi + i) % 6 < six.length := Nat.mod_lt _ (by decide)
        rw [List.getD_eq_getElem?_getD, List.getElem?_eq_getElem hl]
        rfl
      have ei : ((fi : Int) + (0 + (i : Int))) % 6 = (((fi + i) % 6 : Nat) : Int) := by omega
      refine ⟨_, rfl, _, rfl, _, rfl, _, _, rfl, rfl, _, _, rfl, rfl, by show (0 : Int) < 6; decide, p, _, _, .str (six.getD ((fi + i) % 6) ""), rfl, rfl, SqL.of hp4, ?_, ?_⟩
      · rw [ei]
        exact atI_nat (by rw [List.getElem?_map, hx]; rfl)
      · refine ⟨_, rfl, a, c, rfl, s4, fun x H5 hxa s5 m5 => ?_⟩
        have n4 : ∀ {b : Addr} {o : HO}, H4 b = some o → o ≠ .lst [] → True := fun _ _ => True.intro
        obtain ⟨n9, cs9, ha9, hc9, _⟩ := id s4
        have hD5 : H5 D = some (.lst ts) := m5.keep D _ nDa.1 nDa.2 hD
        have hp5 : H5 p = some (.lst (six.map V.str)) := m5.keep p _ npa.1 npa.2 hp4
        refine ⟨by show 2 ≤ sizeLine; decide, fun t nt => ?_⟩
        have hDt : D ≠ t := ne_of_none hD5 nt
        have hpt : p ≠ t := ne_of_none hp5 nt
        have st := s5.ne nt
        refine ⟨ts, by rw [upd_ne hDt]; exact hD5, ?_, ts ++ [.ref t], es ++ [(six.getD ((fi + i) % 6) "", x)], ?_, ?_, upd_same, ?_, by simp [lt], ?_, ?_, ?_⟩
        · rw [lt]
          exact Nat.lt_of_lt_of_le (show i < 7 by omega) (by decide)
        · rw [List.map_append, en1, List.range_succ, List.map_append]
          rfl
        · intro y hy
          rcases List.mem_append.mp hy with h | h
          · exact hes y h
          · rw [List.mem_singleton.mp h]
            exact ⟨six_plat _ (List.mem_of_getElem? hx), hxa⟩
        · have h1 : Prs K H5 ts es := prs_mv hP s4 m5
          have h2 : Prs K (upd H5 t (.tup [.str (six.getD ((fi + i) % 6) ""), .str x])) ts es := h1.mono ((Gr.refl _).upd nt)
          have h3 : Prs K (upd (upd H5 t (.tup [.str (six.getD ((fi + i) % 6) ""), .str x])) D (.lst (ts ++ [.ref t]))) ts es := by
            have aux : ∀ {us : List V} {xs : List (Str × Str)}, Prs K (upd H5 t (.tup [.str (six.getD ((fi + i) % 6) ""), .str x])) us xs → Prs K (upd (upd H5 t (.tup [.str (six.getD ((fi + i) % 6) ""), .str x])) D (.lst (ts ++ [.ref t]))) us xs := by
              intro us xs h
              induction h with
              | nil => exact .nil
              | cons r _ ih =>
                obtain ⟨t1, e1, ht1⟩ := r
                refine .cons ⟨t1, e1, ?_⟩ ih
                rw [upd_ne (ne_of ht1 (show (upd H5 t (.tup [.str (six.getD ((fi + i) % 6) ""), .str x])) D = some (.lst ts) by rw [upd_ne hDt]; exact hD5) (by intro z; cases z))]
                exact ht1
            exact aux h2
          refine prs_add h3 ?_
          rw [upd_ne hDt.symm, upd_same]
        · rw [upd_ne npD, upd_ne hpt]
          exact hp5
        · exact (s5.same (same_upd nt)).eq (upd_ne nDa.1.symm) (upd_ne nDa.2.symm)
        · exact ((m4.trans m5).trans (Mv.same (same_upd nt))).new nD
    · rintro H4 ⟨ts, es, en1, hes, hD, hP, lt, hp4, s4, m4⟩
      have le : es.length = n0 + 1 := by rw [← hP.len, lt]
      exact q D ts es H4 (m3.free D nD) hD hP hes (by rw [en1]; exact six_nodup fi (n0 + 1) (by omega) (by omega)) (by omega) (by omega) nDa.1 nDa.2 s4 (m3.trans m4)
end
end LW
namespace LW
open PySem PySem.Spec PyProof.Rows L2 GxR
open TL (tl spl spl_nil spl_hit spl_miss pre)
/-- signs that a text may have -/
def Asc (t : Str) : Prop := ∀ c ∈ tl t, c < 1000
theorem spl_sub (c : Nat) : ∀ (l acc : List Nat), ∀ p ∈ spl [c] 0 acc l, ∀ x ∈ p, x ∈ acc ∨ x ∈ l
  | [], acc, p, h, x, hx => by
    rw [spl_nil] at h
    rw [List.mem_singleton.mp h] at hx
    exact .inl hx
  | y :: r, acc, p, h, x, hx => by
    by_cases e : pre [c] (y :: r) = true
    · rw [spl_hit e] at h
      rcases List.mem_cons.mp h with h | h
      · rw [h] at hx; exact .inl hx
      · rcases spl_sub c r [] p h x hx with z | z
        · cases z
        · exact .inr (List.mem_cons_of_mem _ z)
    · rw [spl_miss (eq_false_of_ne_true e)] at h
      rcases spl_sub c r (acc ++ [y]) p h x hx with z | z
      · rcases List.mem_append.mp z with z | z
        · exact .inl z
        · rw [List.mem_singleton.mp z]; exact .inr List.mem_cons_self
      · exact .inr (List.mem_cons_of_mem _ z)
theorem lns_asc {t l : Str} (h : l ∈ lns t) (a : Asc t) : Asc l := fun x hx => by
  have m : tl l ∈ spl [10] 0 [] (tl t) := by rw [← lns_tl]; exact List.mem_map_of_mem h
  rcases spl_sub 10 (tl t) [] _ m x hx with z | z
  · cases z
  · exact a x z
theorem wds_asc {t l : Str} (h : l ∈ wds t) (a : Asc t) : Asc l := fun x hx => by
  have m : tl l ∈ spl [32] 0 [] (tl t) := by rw [← wds_tl]; exact List.mem_map_of_mem h
  rcases spl_sub 32 (tl t) [] _ m x hx with z | z
  · cases z
  · exact a x z
theorem Asc.ok {t : Str} (a : Asc t) : PyData.strOk t = true := by
  unfold PyData.strOk
  rw [← Array.all_toList, List.all_eq_true]
  intro x hx
  have := a x hx
  exact decide_eq_true (by omega)
/-! ### lists as data -/
theorem dp_strs {K : PySem.W.Frag} {H : Hp} : ∀ ls : List Str, DpAll K H (ls.map V.str) (ls.map PyData.str)
  | [] => .nil
  | x :: r => .cons (.str x) (dp_strs r)
theorem lay_strs : ∀ ls : List Str, (∀ x ∈ ls, PyData.strOk x = true) → PyData.canLayAll0 (ls.map PyData.str) = true ∧ PyData.depthAll (ls.map PyData.str) = 0
  | [], _ => ⟨rfl, rfl⟩
  | x :: r, h => by
    have ih := lay_strs r fun y hy => h y (List.mem_cons_of_mem _ hy)
    constructor
    · rw [List.map_cons, PyData.canLayAll0, ih.1, PyData.canLay0, h x List.mem_cons_self]; rfl
    · rw [List.map_cons, PyData.depthAll, ih.2, PyData.depth]; rfl
theorem shaped_strs {ls : List Str} (h : ∀ x ∈ ls, PyData.strOk x = true) : SeqAt.shaped (.list (ls.map PyData.str)) = true := by
  have l := lay_strs ls h
  unfold SeqAt.shaped
  rw [PyData.canLay0, l.1, PyData.depth, l.2]
  rfl
theorem eqv_nil (ls : List Str) : PyData.eqv (.list (ls.map PyData.str)) (.list []) = ls.isEmpty := by
  cases ls with
  | nil => rfl
  | cons x r => rfl
abbrev s_law_is_address : Stmt := topS 28
abbrev N_law_is_address : List Str := ["word", "sign"]
abbrev P_law_is_address : List Str := ["word"]
theorem sc_law_is_address : FnScope N_law_is_address P_law_is_address (defScope s_law_is_address) := ⟨rfl, rfl, rfl, by decide +kernel, rfl, by decide +kernel, by decide +kernel⟩
abbrev s_law_is_platform : Stmt := topS 29
abbrev N_law_is_platform : List Str := ["word", "signs", "sign"]
abbrev P_law_is_platform : List Str := ["word"]
theorem sc_law_is_platform : FnScope N_law_is_platform P_law_is_platform (defScope s_law_is_platform) := ⟨rfl, rfl, rfl, by decide +kernel, rfl, by decide +kernel, by decide +kernel⟩
def spPure (p : Str → Bool) : Sp := fun vs H Q _ => ∃ t : Str, vs = [.str t] ∧ t.length ≤ 10000 ∧ Asc t ∧ ∀ H', Same H H' → Q (.bl (p t)) H'
/-- the signs of l that are not among zs -/
def outs (zs l : List Nat) : List Str := ((List.range l.length).filter fun i => !decide (l.getD i 0 ∈ zs)).map fun i => ⟨#[l.getD i 0]⟩
theorem outs_nil (zs l : List Nat) : (outs zs l).isEmpty = l.all fun c => decide (c ∈ zs) := by
  unfold outs
  rw [Bool.eq_iff_iff, List.isEmpty_iff, List.map_eq_nil_iff, List.filter_eq_nil_iff, List.all_eq_true]
  constructor
  · intro h c hc
    obtain ⟨i, hi, e⟩ := List.getElem_of_mem hc
    have := h i (List.mem_range.mpr hi)
    rw [List.getD_eq_getElem?_getD, List.getElem?_eq_getElem hi] at this
    simp at this
    rw [← e]
    exact decide_eq_true this
  · intro h i hi
    have hi' := List.mem_range.mp hi
    rw [List.getD_eq_getElem?_getD, List.getElem?_eq_getElem hi']
    have := h l[i] (List.getElem_mem hi')
    simp at this ⊢
    exact this
theorem outs_len (zs l : List Nat) : decide (V.int ((outs zs l).length : Nat) = V.int 0) = l.all fun c => decide (c ∈ zs) := by
  rw [← outs_nil]
  cases e : outs zs l with
  | nil => rfl
  | cons x r =>
    have : V.int (((x :: r).length : Nat) : Int) ≠ V.int 0 := by
      intro z
      injection z with z
      simp at z
      omega
    rw [decide_eq_false this]
    rfl
theorem outs_mem {zs l : List Nat} {x : Str} (h : x ∈ outs zs l) : ∃ c ∈ l, x = ⟨#[c]⟩ := by
  unfold outs at h
  obtain ⟨i, hi, rfl⟩ := List.mem_map.mp h
  have hi' := List.mem_range.mp (List.mem_filter.mp hi).1
  refine ⟨l.getD i 0, ?_, rfl⟩
  rw [List.getD_eq_getElem?_getD, List.getElem?_eq_getElem hi']
  exact List.getElem_mem hi'
section
variable {P : Program} {w : World} {K : PySem.W.Frag} {mg : Str → Option Value} {base : Heap} {cM cR cU : Addr}
theorem ok_law_is_address {f : Addr} {fd : FuncData} (F : Fun K "_law_is_address" "_law_is_address" s_law_is_address f fd) (T : Tx K mg cM cR cU) : FnOk P w K mg base CX0 1 f fd P_law_is_address (spPure isAddr) := by
  refine F.ok sc_law_is_address (fun vs H Q E h => ?_) (fun cdv A outer s H vs Q E hr h => ?_)
  · obtain ⟨t, rfl, _⟩ := h
    rfl
  · obtain ⟨t, rfl, hl, _, q⟩ := h
    have nd := sc_law_is_address.nd
    refine ⟨_, pss_one (ps_ret (pe_and (pe_cmpR op_eq (pe_callB call_len_str (by rfl) T.len (by decide +kernel) (pa_cons (pv 0) pa_nil)) pe_int (nomark _)) (pe_one (pe_cmpR op_eq (pe_callB call_len_seq (by rfl) T.len (by decide +kernel) (pa_cons (pe_lc (own := [("sign", 1)]) (g := gName 1)  rfl nd (pi_str (pv 0)) (blkOk_by (N := N_law_is_address) (sc := defScope s_law_is_address) (by decide +kernel)) (fun _ _ _ _ _ => (pg_name (i := 1) nd rfl (Or.inl rfl))) (fun _ _ _ _ _ => (pts_one (pt_cmpR op_notIn_sign (pv 1) pe_str (by rfl)))) (fun _ _ _ _ _ => (pv 1))) pa_nil)) pe_int (nomark _))))), ?_⟩
    refine ⟨_, rfl, t, rfl, by rw [sizeLine_eq]; omega, rfl, _, rfl, ?_⟩
    rw [len_eq16]
    cases e2 : decide (t.length = 16) with
    | false =>
      refine iteF ?_
      have := q H (Same.refl H)
      unfold isAddr at this
      rw [e2] at this
      exact this
    | true =>
      refine iteT ?_
      refine ⟨.str t, rfl, t, rfl, fun D nD => lc_flt walk_str (σ := [some (.str t), none]) (vs := [1]) (fun i => !decide (t.cps.toList.getD i 0 ∈ hexDigits)) (fun i => .str ⟨#[t.cps.toList.getD i 0]⟩) ?_ (fun _ _ => True.intro) (fun _ => rfl) ?_ ?_⟩
      · exact Nat.lt_of_le_of_lt (show t.cps.size ≤ 10000 from hl) (by decide)
      · rintro i x H1 H2 hi hb ⟨rfl, c, hc, rfl⟩
        have hc' : t.cps.toList.getD i 0 = c := by
          have h1 : t.cps.toList[i]? = some c := by rw [Array.getElem?_toList]; exact hc
          rw [List.getD_eq_getElem?_getD, h1]
          rfl
        refine ⟨rfl, fun Q2 k => ⟨_, rfl, c, _, rfl, rfl, _, rfl, ?_⟩, fun _ Q2 k => ⟨_, rfl, ?_⟩⟩
        · rw [digits_eq, ← hc']
          exact k
        · rw [← hc']
          exact k
      · refine ⟨D, _, rfl, .inl (SqL.of upd_same), rfl, ?_⟩
        have := q _ (same_upd (o := .lst (((List.range t.cps.size).filter fun i => !decide (t.cps.toList.getD i 0 ∈ hexDigits)).map fun i => .str ⟨#[t.cps.toList.getD i 0]⟩)) nD)
        unfold isAddr at this
        rw [e2, Bool.true_and, ← outs_len] at this
        unfold outs at this
        rw [List.length_map] at this ⊢
        exact this
theorem ok_law_is_platform {f : Addr} {fd : FuncData} (F : Fun K "_law_is_platform" "_law_is_platform" s_law_is_platform f fd) (T : Tx K mg cM cR cU) : FnOk P w K mg base CX0 1 f fd P_law_is_platform (spPure isPlat) := by
  refine F.ok sc_law_is_platform (fun vs H Q E h => ?_) (fun cdv A outer s H vs Q E hr h => ?_)
  · obtain ⟨t, rfl, _⟩ := h
    rfl
  · obtain ⟨t, rfl, hl, ha, q⟩ := h
    have nd := sc_law_is_platform.nd
    refine ⟨_, pss_cons (ps_setLc (i := 1) (own := [("sign", 2)]) (g := gName 2)  rfl nd rfl rfl (sw_true rfl rfl rfl (by decide +kernel)) (pi_str (pv 0)) (blkOk_by (N := N_law_is_platform) (sc := defScope s_law_is_platform) (by decide +kernel)) (fun _ _ _ _ _ => (pg_name (i := 2) nd rfl (Or.inl rfl))) (fun _ _ _ _ _ => (pts_one (pt_cmpR op_notIn_sign (pv 2) pe_str (by rfl)))) (fun _ _ _ _ _ => (pv 2)))
  (pss_one (ps_ret (pe_and (pe_cmpR op_le pe_int (pe_callB call_len_str (by rfl) T.len (by decide +kernel) (pa_cons (pv 0) pa_nil)) (nomark _)) (pe_and (pe_cmpR op_le (pe_callB call_len_str (by rfl) T.len (by decide +kernel) (pa_cons (pv 0) pa_nil)) pe_int (nomark _)) (pe_one (pe_cmpR (op_eqD hr.units) (pv 1) (pe_lst pa_nil) (nomark _))))))), ?_⟩
    have hsz : t.length ≤ sizeLine := by rw [sizeLine_eq]; omega
    refine ⟨.str t, rfl, t, rfl, fun D nD => lc_flt walk_str (σ := [some (.str t), none, none]) (vs := [2]) (fun i => !decide (t.cps.toList.getD i 0 ∈ letters)) (fun i => .str ⟨#[t.cps.toList.getD i 0]⟩) ?_ (fun _ _ => True.intro) (fun _ => rfl) ?_ ?_⟩
    · exact Nat.lt_of_le_of_lt (show t.cps.size ≤ 10000 from hl) (by decide)
    · rintro i x H1 H2 hi hb ⟨rfl, c, hc, rfl⟩
      have hc' : t.cps.toList.getD i 0 = c := by
        have h1 : t.cps.toList[i]? = some c := by rw [Array.getElem?_toList]; exact hc
        rw [List.getD_eq_getElem?_getD, h1]
        rfl
      refine ⟨rfl, fun Q2 k => ⟨_, rfl, c, _, rfl, rfl, _, rfl, ?_⟩, fun _ Q2 k => ⟨_, rfl, ?_⟩⟩
      · rw [letters_eq, ← hc']
        exact k
      · rw [← hc']
        exact k
    · have eo : (((List.range t.cps.size).filter fun i => !decide (t.cps.toList.getD i 0 ∈ letters)).map fun i => V.str ⟨#[t.cps.toList.getD i 0]⟩) = (outs letters (tl t)).map V.str := by
        unfold outs
        rw [List.map_map]
        rfl
      rw [eo]
      have sm1 : Same H (upd H D (.lst ((outs letters (tl t)).map V.str))) := same_upd nD
      have d1 : decide ((1 : Int) ≤ ((t.length : Nat) : Int)) = decide (1 ≤ t.length) := decide_eq_decide.mpr (by omega)
      have d2 : decide (((t.length : Nat) : Int) ≤ 10) = decide (t.length ≤ 10) := decide_eq_decide.mpr (by omega)
      refine ⟨_, rfl, t, rfl, hsz, _, _, rfl, rfl, _, rfl, ?_⟩
      rw [d1]
      cases e1 : decide (1 ≤ t.length) with
      | false =>
        refine iteF ?_
        have := q _ sm1
        unfold isPlat at this
        rw [e1] at this
        exact this
      | true =>
        refine iteT ⟨_, rfl, t, rfl, hsz, _, _, rfl, rfl, _, rfl, ?_⟩
        rw [d2]
        cases e2 : decide (t.length ≤ 10) with
        | false =>
          refine iteF ?_
          have := q _ sm1
          unfold isPlat at this
          rw [e1, e2] at this
          exact this
        | true =>
          refine iteT ⟨_, rfl, by show 0 ≤ sizeLine; decide, fun p2 np2 => ?_⟩
          have sm2 := sm1.trans (same_upd (o := .lst []) np2)
          have hD : (upd (upd H D (.lst ((outs letters (tl t)).map V.str))) p2 (.lst [])) D = some (.lst ((outs letters (tl t)).map V.str)) := by
            rw [upd_ne (ne_of_none upd_same np2), upd_same]
          refine ⟨.list ((outs letters (tl t)).map PyData.str), .list [], .lst (SqL.of hD) (dp_strs _), .lst (SqL.of upd_same) .nil, shaped_strs fun x hx => ?_, by decide, ?_⟩
          · obtain ⟨c, hc, rfl⟩ := outs_mem hx
            refine Asc.ok fun y hy => ?_
            have : y = c := by simpa using hy
            rw [this]
            exact ha c hc
          · rw [eqv_nil, outs_nil]
            have := q _ sm2
            unfold isPlat at this
            rw [e1, e2, Bool.and_self, Bool.true_and] at this
            exact this
end
end LW
namespace LW
open PySem PySem.Spec PyProof.Rows L2 GxR
abbrev s_law_fault : Stmt := topS 30
abbrev N_law_fault : List Str := ["kind", "text", "lines", "seen", "k", "words"]
abbrev P_law_fault : List Str := ["kind", "text"]
theorem sc_law_fault : FnScope N_law_fault P_law_fault (defScope s_law_fault) := ⟨rfl, rfl, rfl, by decide +kernel, rfl, by decide +kernel, by decide +kernel⟩
def fv (o : Option Nat) : Int := match o with
  | some k => (k : Int)
  | none => -1
def spFault : Sp := fun vs H Q _ => ∃ (b : Bool) (t : Str), vs = [.str (word b), .str t] ∧ t.length ≤ 5000 ∧ Asc t ∧ ∀ H', Same H H' → Q (.int (fv (faultN b (lns t)))) H'
theorem same_new {H H' : Hp} {p : Addr} {o : HO} (s : Same H H') (n : H p = none) : Same H (upd H' p o) := fun b x e => by
  rw [upd_ne (ne_of_none e n)]
  exact s b x e
theorem mid_at {ls : List Str} {i : Nat} (hi : i < ls.length - 2) : ∃ z, ls[i + 1]? = some z ∧ (mid ls)[i]? = some z := by
  have h1 : i + 1 < ls.length := by omega
  refine ⟨ls[i + 1], List.getElem?_eq_getElem h1, ?_⟩
  unfold mid
  rw [List.getElem?_dropLast, if_pos (by rw [List.length_drop]; omega), List.getElem?_drop, Nat.add_comm 1 i, List.getElem?_eq_getElem h1]
theorem in_strs (x : Str) (ls : List Str) : inV (.str x) (ls.map V.str) = decide (x ∈ ls) := by
  unfold inV
  rw [List.any_map, Bool.eq_iff_iff, List.any_eq_true, decide_eq_true_eq]
  constructor
  · rintro ⟨y, hy, e⟩
    have : y = x := by simpa [eqV] using e
    rw [← this]
    exact hy
  · intro h
    exact ⟨x, h, by simp [eqV]⟩
section
variable {P : Program} {w : World} {K : PySem.W.Frag} {mg : Str → Option Value} {base : Heap} {cM cR cU : Addr}
theorem ok_law_fault {f fA fP : Addr} {fd dA dP : FuncData} (F : Fun K "_law_fault" "_law_fault" s_law_fault f fd) (T : Tx K mg cM cR cU)
    (DA : DefAt K mg "_law_is_address" s_law_is_address P_law_is_address fA dA) (DP : DefAt K mg "_law_is_platform" s_law_is_platform P_law_is_platform fP dP) : FnOk P w K mg base CX0 2 f fd P_law_fault spFault := by
  have GA : FnOk P w K mg base CX0 1 fA dA P_law_is_address (spPure isAddr) := ok_law_is_address DA.fn T
  have GP : FnOk P w K mg base CX0 1 fP dP P_law_is_platform (spPure isPlat) := ok_law_is_platform DP.fn T
  refine F.ok sc_law_fault (fun vs H Q E h => ?_) (fun cdv A outer s H vs Q E hr h => ?_)
  · obtain ⟨b, t, rfl, _⟩ := h
    rfl
  · obtain ⟨b, t, rfl, hl, ha, q⟩ := h
    have nd := sc_law_fault.nd
    refine ⟨_, pss_cons (ps_set (i := 2) nd rfl (Or.inl rfl) (pe_split (pv 1) pe_str))
  (pss_cons (ps_if (pt_cmpR op_ne (pe_ix ix_list (pv 2) pe_int (fun _ _ => rfl)) (pv 0) (nomark _))
    (pss_one (ps_ret pe_int))
    (pss_nil))
  (pss_cons (ps_if (pt_cmpR op_ne (pe_ix ix_list (pv 2) (pe_op op_sub (pe_callB call_len_seq (by rfl) T.len (by decide +kernel) (pa_cons (pv 2) pa_nil)) pe_int) (fun _ _ => rfl)) pe_str (nomark _))
    (pss_one (ps_ret (pe_op op_sub (pe_callB call_len_seq (by rfl) T.len (by decide +kernel) (pa_cons (pv 2) pa_nil)) pe_int)))
    (pss_nil))
  (pss_cons (ps_if (pt_cmpR op_gt (pe_callB call_len_seq (by rfl) T.len (by decide +kernel) (pa_cons (pv 2) pa_nil)) pe_int (nomark _))
    (pss_one (ps_ret pe_int))
    (pss_nil))
  (pss_cons (ps_if (PW.pt (pw_and (pt_cmpR op_eq (pv 0) pe_str (nomark _)) (pw_and1 (pt_cmpR op_eq (pe_callB call_len_seq (by rfl) T.len (by decide +kernel) (pa_cons (pv 2) pa_nil)) pe_int (nomark _)))))
    (pss_one (ps_ret pe_int))
    (pss_nil))
  (pss_cons (ps_set (i := 3) nd rfl (Or.inl rfl) (pe_lst pa_nil))
  (pss_cons (ps_for PassesOwn.never rfl (pi_range2 (by rfl) T.range (pa_cons pe_int (pa_cons (pe_op op_sub (pe_callB call_len_seq (by rfl) T.len (by decide +kernel) (pa_cons (pv 2) pa_nil)) pe_int) pa_nil))) (pg_name (i := 4) nd rfl (Or.inl rfl))
    (pss_cons (ps_set (i := 5) nd rfl (Or.inl rfl) (pe_split (pe_ix ix_list (pv 2) (pv 4) (fun _ _ => rfl)) pe_str))
  (pss_cons (ps_if (PW.pt (pw_and (pt_cmpR op_eq (pv 0) pe_str (nomark _)) (pw_and1 (pt_not (pt_val (pe_call GA hr rfl DA.at_ DA.fn.kp DA.bd .nil pass0 (pa_cons (pe_ix ix_list (pv 2) (pv 4) (fun _ _ => rfl)) pa_nil)))))))
    (pss_one (ps_ret (pv 4)))
    (pss_nil))
  (pss_one (ps_if (pt_cmpR op_eq (pv 0) pe_str (nomark _))
    (pss_cons (ps_if (PW.pt (pw_or (pt_cmpR op_ne (pe_callB call_len_seq (by rfl) T.len (by decide +kernel) (pa_cons (pv 5) pa_nil)) pe_int (nomark _)) (pw_or (pt_not (pt_val (pe_call GP hr rfl DP.at_ DP.fn.kp DP.bd .nil pass0 (pa_cons (pe_ix ix_list (pv 5) pe_int (fun _ _ => rfl)) pa_nil)))) (pw_or (pt_not (pt_val (pe_call GA hr rfl DA.at_ DA.fn.kp DA.bd .nil pass0 (pa_cons (pe_ix ix_list (pv 5) pe_int (fun _ _ => rfl)) pa_nil)))) (pw_or1 (pt_cmpR op_in_seq (pe_ix ix_list (pv 5) pe_int (fun _ _ => rfl)) (pv 3) (by rfl)))))))
    (pss_one (ps_ret (pv 4)))
    (pss_nil))
  (pss_one (ps_expr (pe_bm PySem.F.plainAttrs_list PySem.F.slot_list_append PySem.F.type_list_append mt_append (pv 3) (pa_cons (pe_ix ix_list (pv 5) pe_int (fun _ _ => rfl)) pa_nil)))))
    (pss_nil))))))
  (pss_one (ps_ret (pe_un un_neg pe_int))))))))), ?_⟩
    have hsz : t.length + 2 ≤ sizeLine := by rw [sizeLine_eq]; omega
    have hne := lns_ne t
    have hlen := lns_len t
    obtain ⟨hd, eh, eh0⟩ := head_at _ hne
    obtain ⟨la, el, el0⟩ := last_at _ hne
    have hpos : 1 ≤ (lns t).length := List.length_pos_iff.mpr hne
    have eml : ((lns t).map V.str).length = (lns t).length := List.length_map _
    have e_img : decide (word b = "image") = !b := by cases b <;> decide
    have e_bun : decide (word b = "bundle") = b := by cases b <;> decide
    refine ⟨.str t, rfl, ⟨t, rfl⟩, t, nl, rfl, rfl, by decide +kernel, hsz, fun p np => ?_⟩
    have hp : (upd H p (.lst ((lns t).map V.str))) p = some (.lst ((lns t).map V.str)) := upd_same
    have sm : Same H (upd H p (.lst ((lns t).map V.str))) := same_upd np
    have hS : SqL K (upd H p (.lst ((lns t).map V.str))) p ((lns t).map V.str) := SqL.of hp
    refine ⟨.ref p, rfl, p, _, 0, .str hd, rfl, rfl, hS, atI_nat (by rw [List.getElem?_map, eh0]; rfl), .str (word b), rfl, rfl, _, rfl, ?_⟩
    rw [neq_str]
    refine ite2 (fun e => ?_) (fun e => ?_)
    · have hbe : behN (word b) (lns t) = some 0 := by
        unfold behN
        rw [if_pos]
        rw [eh]
        intro z
        exact of_decide_eq_true e (Option.some.inj z)
      have := q _ sm
      rw [fault_beh hbe] at this
      exact this
    · have ehw : hd = word b := by
        have := of_decide_eq_false (eq_false_of_ne_true e)
        exact Classical.not_not.mp this
      have b1 : (lns t).head? = some (word b) := by rw [eh, ehw]
      have el1 : atI ((lns t).map V.str) ((((lns t).map V.str).length : Nat) - 1) = some (.str la) := by
        have : (((((lns t).map V.str).length : Nat) : Int) - 1) = (((lns t).length - 1 : Nat) : Int) := by rw [eml]; omega
        rw [this]
        exact atI_nat (by rw [List.getElem?_map, el0]; rfl)
      refine ⟨.ref p, rfl, _, rfl, p, _, rfl, .inl hS, _, _, rfl, rfl, p, _, _, .str la, rfl, rfl, hS, el1, rfl, _, rfl, ?_⟩
      rw [neq_str]
      refine ite2 (fun e => ?_) (fun e => ?_)
      · have hbe : behN (word b) (lns t) = some ((lns t).length - 1) := by
          unfold behN
          rw [if_neg (by rw [b1]; exact fun z => z rfl), if_pos]
          rw [el]
          intro z
          exact of_decide_eq_true e (Option.some.inj z)
        refine ⟨_, rfl, p, _, rfl, .inl hS, _, _, rfl, rfl, ?_⟩
        have := q _ sm
        rw [fault_beh hbe] at this
        have e9 : (((((lns t).map V.str).length : Nat) : Int) - 1) = fv (some ((lns t).length - 1)) := by
          rw [eml]
          show _ = (((lns t).length - 1 : Nat) : Int)
          omega
        have this2 : Q (.int ((((lns t).map V.str).length : Nat) - 1)) (upd H p (.lst ((lns t).map V.str))) := by rw [e9]; exact this
        exact this2
      · have ela : la = "" := by
          have := of_decide_eq_false (eq_false_of_ne_true e)
          exact Classical.not_not.mp this
        have b2 : (lns t).getLast? = some ("" : Str) := by rw [el, ela]
        refine ⟨_, rfl, p, _, rfl, .inl hS, _, _, rfl, rfl, _, rfl, ?_⟩
        rw [eml]
        refine ite2 (fun e => ?_) (fun e => ?_)
        · have h52 : 52 < (lns t).length := by
            have := of_decide_eq_true e
            omega
          have hbe : behN (word b) (lns t) = some 51 := by
            unfold behN
            rw [if_neg (by rw [b1]; exact fun z => z rfl), if_neg (by rw [b2]; exact fun z => z rfl), if_pos h52]
          have := q _ sm
          rw [fault_beh hbe] at this
          exact this
        · have h52 : ¬ 52 < (lns t).length := by
            have := of_decide_eq_false (eq_false_of_ne_true e)
            omega
          have hbe : behN (word b) (lns t) = none := by
            unfold behN
            rw [if_neg (by rw [b1]; exact fun z => z rfl), if_neg (by rw [b2]; exact fun z => z rfl), if_neg h52]
          have hf := fault_mid (b := b) hbe
          have ln := mid_len (lns t)
          have l2 : 2 ≤ (lns t).length := beh_two hne (by cases b <;> decide) hbe
          have enn : ((((lns t).length : Nat) : Int) - 1 - 1).toNat = (lns t).length - 2 := by omega
          have hat : ∀ (i : Nat) (z : Str), (lns t)[i + 1]? = some z → atI ((lns t).map V.str) (1 + (i : Int)) = some (.str z) := fun i z h => by
            have : (1 : Int) + (i : Int) = ((i + 1 : Nat) : Int) := by omega
            rw [this]
            exact atI_nat (by rw [List.getElem?_map, h]; rfl)
          refine ⟨_, rfl, rfl, _, rfl, ?_⟩
          rw [eq_str, e_bun]
          cases b with
          | false =>
            rw [if_neg (by simp)] at hf
            refine iteF (iteF ?_)
            refine ⟨by show 0 ≤ sizeLine; decide, fun sn nsn => ?_⟩
            refine ⟨_, rfl, p, _, rfl, .inl (SqL.of (by rw [upd_ne (ne_of_none hp nsn)]; exact hp)), _, _, rfl, rfl, 1, _, rfl, ⟨by decide, by decide, by rw [eml]; omega, by rw [eml]; omega⟩, ?_⟩
            rw [eml, enn]
            refine for_range (lo := 1) (n := (lns t).length - 2) (fun i σ H' => Same (upd H p (.lst ((lns t).map V.str))) H' ∧ (∀ j, j < i → bad false (mid (lns t)) j = false) ∧ ∃ v1 v2, σ = [some (.str (word false)), some (.str t), some (.ref p), some (.ref sn), v1, v2])
              ⟨same_upd nsn, fun j hj => absurd hj (by omega), none, none, rfl⟩ ?_ ?_
            · rintro i σ H3 hi ⟨s3, hno, v1, v2, rfl⟩
              obtain ⟨z, hz1, hz2⟩ := mid_at hi
              have hzm : z ∈ lns t := List.mem_of_getElem? hz1
              have hzl := lns_mem hzm
              have hza := lns_asc hzm ha
              have e9 : (mid (lns t)).getD i "" = z := by rw [List.getD_eq_getElem?_getD, hz2]; rfl
              have hS3 : SqL K H3 p ((lns t).map V.str) := SqL.of (s3 _ _ hp)
              refine ⟨.ref p, rfl, _, rfl, p, _, _, .str z, rfl, rfl, hS3, hat i z hz1, ⟨z, rfl⟩, z, sp, rfl, rfl, by decide +kernel, by rw [sizeLine_eq]; omega, fun wd nw => ?_⟩
              have s4 : Same (upd H p (.lst ((lns t).map V.str))) (upd H3 wd (.lst ((wds z).map V.str))) := s3.trans (same_upd nw)
              have hS4 : SqL K (upd H3 wd (.lst ((wds z).map V.str))) p ((lns t).map V.str) := SqL.of (s4 _ _ hp)
              refine ⟨_, rfl, rfl, _, rfl, ?_⟩
              rw [eq_str, e_img]
              refine iteT ⟨.ref p, rfl, _, rfl, p, _, _, .str z, rfl, rfl, hS4, hat i z hz1, z, rfl, by omega, hza, fun H5 s5 => ⟨_, rfl, ?_⟩⟩
              have s6 := s4.trans s5
              cases hbz : isAddr z with
              | false =>
                refine iteT ⟨_, rfl, ?_⟩
                have hbad : bad false (mid (lns t)) i = true := by
                  show (!isAddr ((mid (lns t)).getD i "")) = true
                  rw [e9, hbz]; rfl
                have hfk : faultN false (lns t) = some (i + 1) := by
                  rw [hf, find_hit hi hno hbad]
                  rfl
                have := q _ (sm.trans s6)
                rw [hfk] at this
                have ei : (1 : Int) + (i : Int) = ((i + 1 : Nat) : Int) := by omega
                have this2 : Q (.int (1 + (i : Int))) H5 := by rw [ei]; exact this
                exact this2
              | true =>
                refine iteF ⟨_, rfl, rfl, _, rfl, ?_⟩
                rw [eq_str, e_bun]
                refine iteF ⟨s6, fun j hj => ?_, _, _, rfl⟩
                by_cases hji : j < i
                · exact hno j hji
                · have : j = i := by omega
                  subst this
                  show (!isAddr ((mid (lns t)).getD j "")) = false
                  rw [e9, hbz]; rfl
            · rintro σ H3 ⟨s3, hno, v1, v2, rfl⟩
              have hfk : faultN false (lns t) = none := by
                rw [hf, find_miss hno]
                rfl
              have := q _ (sm.trans s3)
              rw [hfk] at this
              exact ⟨1, rfl, this⟩
          | true =>
            refine iteT ⟨_, rfl, p, _, rfl, .inl hS, rfl, _, rfl, ?_⟩
            rw [eml]
            refine ite2 (fun e => ?_) (fun e => ?_)
            · have e2 : (lns t).length = 2 := by
                have := of_decide_eq_true e
                injection this with this
                omega
              have := q _ sm
              rw [hf, if_pos ⟨rfl, e2⟩] at this
              exact this
            · have e2 : ¬ (true = true ∧ (lns t).length = 2) := by
                rintro ⟨_, h2⟩
                exact absurd (decide_eq_true (by rw [h2]; rfl)) e
              rw [if_neg e2] at hf
              refine ⟨by show 0 ≤ sizeLine; decide, fun sn nsn => ?_⟩
              refine ⟨_, rfl, p, _, rfl, .inl (SqL.of (by rw [upd_ne (ne_of_none hp nsn)]; exact hp)), _, _, rfl, rfl, 1, _, rfl, ⟨by decide, by decide, by rw [eml]; omega, by rw [eml]; omega⟩, ?_⟩
              rw [eml, enn]
              refine for_range (lo := 1) (n := (lns t).length - 2) (fun i σ H' => Same (upd H p (.lst ((lns t).map V.str))) H' ∧ H' sn = some (.lst ((((mid (lns t)).take i).map nam).map V.str)) ∧ (∀ j, j < i → bad true (mid (lns t)) j = false) ∧ ∃ v1 v2, σ = [some (.str (word true)), some (.str t), some (.ref p), some (.ref sn), v1, v2])
                ⟨same_upd nsn, upd_same, fun j hj => absurd hj (by omega), none, none, rfl⟩ ?_ ?_
              · rintro i σ H3 hi ⟨s3, hsn, hno, v1, v2, rfl⟩
                obtain ⟨z, hz1, hz2⟩ := mid_at hi
                have hzm : z ∈ lns t := List.mem_of_getElem? hz1
                have hzl := lns_mem hzm
                have hza := lns_asc hzm ha
                have e9 : (mid (lns t)).getD i "" = z := by rw [List.getD_eq_getElem?_getD, hz2]; rfl
                have hS3 : SqL K H3 p ((lns t).map V.str) := SqL.of (s3 _ _ hp)
                refine ⟨.ref p, rfl, _, rfl, p, _, _, .str z, rfl, rfl, hS3, hat i z hz1, ⟨z, rfl⟩, z, sp, rfl, rfl, by decide +kernel, by rw [sizeLine_eq]; omega, fun wd nw => ?_⟩
                have s4 : Same (upd H p (.lst ((lns t).map V.str))) (upd H3 wd (.lst ((wds z).map V.str))) := s3.trans (same_upd nw)
                have hsn4 : (upd H3 wd (.lst ((wds z).map V.str))) sn = some (.lst ((((mid (lns t)).take i).map nam).map V.str)) := by rw [upd_ne (ne_of_none hsn nw)]; exact hsn
                have hw4 : (upd H3 wd (.lst ((wds z).map V.str))) wd = some (.lst ((wds z).map V.str)) := upd_same
                have hbi : bad true (mid (lns t)) i = (decide (nam z ∈ ((mid (lns t)).take i).map nam) || !isPlat (nam z) || !isAddr (adr z)) := by
                  unfold bad
                  rw [if_pos rfl, e9]
                have ei : (1 : Int) + (i : Int) = ((i + 1 : Nat) : Int) := by omega
                have R : ∀ H5, Same (upd H p (.lst ((lns t).map V.str))) H5 → bad true (mid (lns t)) i = true → Q (.int (1 + (i : Int))) H5 := fun H5 s5 hb => by
                  have := q _ (sm.trans s5)
                  rw [hf, find_hit hi hno hb] at this
                  rw [ei]
                  exact this
                refine ⟨_, rfl, rfl, _, rfl, ?_⟩
                rw [eq_str, e_img]
                refine iteF (iteF ⟨_, rfl, rfl, _, rfl, ?_⟩)
                rw [eq_str, e_bun]
                refine iteT ⟨_, rfl, wd, _, rfl, .inl (SqL.of hw4), rfl, _, rfl, ?_⟩
                rw [List.length_map]
                rcases words_of z with hw | ⟨hw, hna⟩
                · have hw4 : (upd H3 wd (.lst ((wds z).map V.str))) wd = some (.lst [.str (nam z), .str (adr z)]) := by rw [upd_same, hw]; rfl
                  have hlen2 : (wds z).length = 2 := congrArg List.length hw
                  rw [hlen2]
                  have mn : nam z ∈ wds z := by rw [hw]; exact List.mem_cons_self
                  have ma : adr z ∈ wds z := by rw [hw]; exact List.mem_cons_of_mem _ List.mem_cons_self
                  have l1 := wds_mem mn
                  have l2' := wds_mem ma
                  refine iteF ⟨.ref wd, rfl, wd, [.str (nam z), .str (adr z)], 0, .str (nam z), rfl, rfl, SqL.of hw4, rfl, nam z, rfl, by omega, wds_asc mn hza, fun H5 s5 => ⟨_, rfl, ?_⟩⟩
                  have s6 := s4.trans s5
                  cases c1 : isPlat (nam z) with
                  | false =>
                    refine iteT (iteT ⟨_, rfl, ?_⟩)
                    exact R H5 s6 (by rw [hbi, c1]; simp)
                  | true =>
                    refine iteF ⟨.ref wd, rfl, wd, [.str (nam z), .str (adr z)], 1, .str (adr z), rfl, rfl, SqL.of (s5 _ _ hw4), rfl, adr z, rfl, by omega, wds_asc ma hza, fun H6 s7 => ⟨_, rfl, ?_⟩⟩
                    have s8 := s6.trans s7
                    cases c2 : isAddr (adr z) with
                    | false =>
                      refine iteT (iteT ⟨_, rfl, ?_⟩)
                      exact R H6 s8 (by rw [hbi, c2]; simp)
                    | true =>
                      have hsn6 := s7 _ _ (s5 _ _ hsn4)
                      refine iteF ⟨.ref wd, rfl, wd, [.str (nam z), .str (adr z)], 0, .str (nam z), rfl, rfl, SqL.of (s7 _ _ (s5 _ _ hw4)), rfl, .ref sn, rfl, sn, _, rfl, .inl (SqL.of hsn6), rfl, ?_, _, rfl, ?_⟩
                      · rw [List.all_map, List.all_eq_true]
                        exact fun _ _ => rfl
                      · rw [if_neg Bool.false_ne_true, in_strs]
                        cases c3 : decide (nam z ∈ ((mid (lns t)).take i).map nam) with
                        | true =>
                          refine iteT ⟨_, rfl, ?_⟩
                          exact R H6 s8 (by rw [hbi, c3]; rfl)
                        | false =>
                          refine iteF ⟨_, rfl, .inl ⟨rfl, _, SqL.of hsn6⟩, .ref wd, rfl, wd, [.str (nam z), .str (adr z)], 0, .str (nam z), rfl, rfl, SqL.of (s7 _ _ (s5 _ _ hw4)), rfl, sn, _, .str (nam z), rfl, rfl, hsn6, ?_, ?_⟩
                          · rw [List.length_map, List.length_map, List.length_take, sizeLine_eq]
                            omega
                          · have et : (mid (lns t)).take (i + 1) = (mid (lns t)).take i ++ [z] := by rw [List.take_add_one, hz2]; rfl
                            refine ⟨same_new s8 nsn, ?_, fun j hj => ?_, _, _, rfl⟩
                            · rw [upd_same, et, List.map_append, List.map_append]
                              rfl
                            · by_cases hji : j < i
                              · exact hno j hji
                              · have : j = i := by omega
                                subst this
                                rw [hbi, c1, c2, c3]; rfl
                · have hl2 : (!decide (V.int ((wds z).length : Nat) = V.int 2)) = true := by
                    rw [Bool.not_eq_true', decide_eq_false_iff_not]
                    intro z2
                    injection z2 with z2
                    exact hw (by omega)
                  rw [hl2]
                  refine iteT (iteT ⟨_, rfl, ?_⟩)
                  exact R _ s4 (by rw [hbi, hna]; simp)
              · rintro σ H3 ⟨s3, hsn, hno, v1, v2, rfl⟩
                have hfk : faultN true (lns t) = none := by
                  rw [hf, find_miss hno]
                  rfl
                have := q _ (sm.trans s3)
                rw [hfk] at this
                exact ⟨1, rfl, this⟩
end
end LW
namespace LW
open PySem PySem.Spec PyProof.Rows L2 GxR
abbrev s_law_changed : Stmt := topS 32
abbrev N_law_changed : List Str := ["state", "text", "at", "piece"]
abbrev P_law_changed : List Str := ["state", "text"]
theorem sc_law_changed : FnScope N_law_changed P_law_changed (defScope s_law_changed) := ⟨rfl, rfl, rfl, by decide +kernel, rfl, by decide +kernel, by decide +kernel⟩
def spChanged : Sp := fun vs H Q _ => ∃ (a c : Addr) (t : Str), vs = [.ref a, .str t] ∧ SL H a c ∧ t.length ≤ 2000 ∧ Asc t ∧ ∀ x H', x.length ≤ 5000 → Asc x → SL H' a c → Mv a c H H' → Q (.str x) H'
theorem cut_asc {t : Str} (a : Asc t) (lo hi : Option Int) : Asc (cutS t lo hi) := by
  intro c hc
  have h : c ∈ ((TL.tl t).drop (HT.sIx t.length 0 lo)).take (HT.sIx t.length t.length hi - HT.sIx t.length 0 lo) := by simpa [cutS, TL.tl] using hc
  exact a c (List.mem_of_mem_drop (List.mem_of_mem_take h))
def pieces : List Str := ["", "\n", " ", "0", "g", "mill ", "z", "image\n"]
theorem piece_ok : ∀ y ∈ pieces, y.length ≤ 6 ∧ ∀ c ∈ y.cps.toList, c < 1000 := by decide +kernel
section
variable {P : Program} {w : World} {K : PySem.W.Frag} {mg : Str → Option Value} {base : Heap} {cM cR cU : Addr}
theorem ok_law_changed {f fT : Addr} {fd dT : FuncData} (F : Fun K "_law_changed" "_law_changed" s_law_changed f fd) (T : Tx K mg cM cR cU) (DT : DefAt K mg "_law_take" s_law_take P_law_take fT dT) : FnOk P w K mg base CX0 2 f fd P_law_changed spChanged := by
  have GT : FnOk P w K mg base CX0 1 fT dT P_law_take spTake := ok_take DT.fn T.len T.int
  refine F.ok sc_law_changed (fun vs H Q E h => ?_) (fun cdv A outer s H vs Q E hr h => ?_)
  · obtain ⟨a, c, t, rfl, _⟩ := h
    rfl
  · obtain ⟨a, c, t, rfl, s0, hl, ha, q⟩ := h
    have nd := sc_law_changed.nd
    refine ⟨_, pss_cons (ps_set (i := 2) nd rfl (Or.inl rfl) (pe_call GT hr rfl DT.at_ DT.fn.kp DT.bd .nil pass0 (pa_cons (pv 0) (pa_cons (pe_op op_add (pe_callB call_len_str (by rfl) T.len (by decide +kernel) (pa_cons (pv 1) pa_nil)) pe_int) pa_nil))))
  (pss_cons (ps_set (i := 3) nd rfl (Or.inl rfl) (pe_ix ix_list (pe_lst (pa_cons pe_str (pa_cons pe_str (pa_cons pe_str (pa_cons pe_str (pa_cons pe_str (pa_cons pe_str (pa_cons pe_str (pa_cons pe_str pa_nil))))))))) (pe_call GT hr rfl DT.at_ DT.fn.kp DT.bd .nil pass0 (pa_cons (pv 0) (pa_cons pe_int pa_nil))) (fun _ _ => rfl)))
  (pss_one (ps_ret (pe_op op_add_str (pe_op op_add_str (pe_slice sl_str (pv 1) po_none (po_some (pv 2))) (pv 3)) (pe_slice sl_str (pv 1) (po_some (pe_op op_add (pv 2) (pe_call GT hr rfl DT.at_ DT.fn.kp DT.bd .nil pass0 (pa_cons (pv 0) (pa_cons pe_int pa_nil))))) po_none))))), ?_⟩
    have hsz : t.length ≤ sizeLine := by rw [sizeLine_eq]; omega
    refine ⟨_, rfl, _, rfl, t, rfl, hsz, _, _, rfl, rfl, a, c, _, rfl, s0, by omega, by omega, fun v H1 v0 v1 e1 s1 => ?_⟩
    obtain ⟨at_, rfl, hat⟩ := nat_of v0 v1
    have m1 := Mv.take s0 s1 e1
    refine ⟨by show 8 ≤ sizeLine; decide, fun p np => ⟨_, rfl, a, c, 8, rfl, s1.same (same_upd np), by decide, by decide, fun v H2 v0 v8 e2 s2 => ?_⟩⟩
    have npa := s1.ne np
    obtain ⟨pj, rfl, hpj⟩ := nat_of v0 v8
    have m2 : Mv a c H H2 := (m1.trans (Mv.same (same_upd np))).trans (Mv.take (s1.same (same_upd np)) s2 e2)
    have hpp : SqL K H2 p (pieces.map V.str) := SqL.of (by rw [e2 p npa.1 npa.2, upd_same]; rfl)
    obtain ⟨piece, hpiece⟩ : ∃ piece : Str, pieces[pj]? = some piece := ⟨_, List.getElem?_eq_getElem (by show pj < 8; omega)⟩
    have pk := piece_ok piece (List.mem_of_getElem? hpiece)
    refine ⟨p, _, _, .str piece, rfl, rfl, hpp, atI_nat (by rw [List.getElem?_map, hpiece]; rfl), ?_⟩
    have lc1 : ∀ lo hi, (cutS t lo hi).length ≤ 2000 := fun lo hi => by
      have := cutS_length t lo hi
      omega
    refine ⟨_, rfl, _, rfl, _, rfl, t, rfl, hsz, _, rfl, _, _, rfl, rfl, ?_, ?_⟩
    · have := lc1 none (some (at_ : Int))
      rw [sizeLine_eq]
      omega
    refine ⟨_, rfl, _, rfl, _, rfl, a, c, 3, rfl, s2, by decide, by decide, fun v H3 v0 v2 e3 s3 => ?_⟩
    have m3 := m2.trans (Mv.take s2 s3 e3)
    refine ⟨_, _, rfl, rfl, _, rfl, t, rfl, hsz, ?_⟩
    have a1 := cut_asc ha none (some (at_ : Int))
    have a2 := cut_asc ha (some ((at_ : Int) + v)) none
    have l1 := lc1 none (some (at_ : Int))
    have l2 := lc1 (some ((at_ : Int) + v)) none
    refine ⟨_, _, rfl, rfl, ?_, ?_⟩
    · rw [app_len, sizeLine_eq]
      omega
    · refine q _ H3 ?_ ?_ s3 m3
      · rw [app_len, app_len]
        omega
      · intro x hx
        rw [TL.tl_append, TL.tl_append] at hx
        rcases List.mem_append.mp hx with hx | hx
        · rcases List.mem_append.mp hx with hx | hx
          · exact a1 x hx
          · exact pk.2 x hx
        · exact a2 x hx
end
end LW
namespace LW
open PySem PySem.Spec PyProof.Rows L2 GxR
abbrev s_law : Stmt := topS 33
abbrev N_law : List Str := ["script", "state", "kind", "count", "layers", "entries", "text", "due", "other", "fault", "told", "k", "entry"]
abbrev P_law : List Str := ["script"]
theorem sc_law : FnScope N_law P_law (defScope s_law) := ⟨rfl, rfl, rfl, by decide +kernel, rfl, by decide +kernel, by decide +kernel⟩
/-- all that the law calls -/
structure Lawc (P : Program) (w : World) (K : PySem.W.Frag) (mg : Str → Option Value) (base : Heap) (cM cR cU B1 B2 fS fT fA fE fI fW fF fK fC fR : Addr) (dS dT dA dE dI dW dF dK dC dR : FuncData) : Prop where
  S : FnOk P w K mg base CX0 1 fS dS P_law_state (spState K)
  aS : mg "_law_state" = some (.ref fS)
  kS : PySem.W.keepIn K (.ref fS) = true
  bS : Binds K dS P_law_state []
  T : FnOk P w K mg base CX0 1 fT dT P_law_take spTake
  aT : mg "_law_take" = some (.ref fT)
  kT : PySem.W.keepIn K (.ref fT) = true
  bT : Binds K dT P_law_take []
  A : FnOk P w K mg base CX0 2 fA dA P_law_address spAddr
  aA : mg "_law_address" = some (.ref fA)
  kA : PySem.W.keepIn K (.ref fA) = true
  bA : Binds K dA P_law_address []
  E : FnOk P w K mg base CX0 3 fE dE P_law_entries (spEntries K)
  aE : mg "_law_entries" = some (.ref fE)
  kE : PySem.W.keepIn K (.ref fE) = true
  bE : Binds K dE P_law_entries []
  I : FnOk P w K mg base CX0 2 fI dI P_image_text (spImage K)
  aI : mg "image_text" = some (.ref fI)
  kI : PySem.W.keepIn K (.ref fI) = true
  bI : Binds K dI P_image_text []
  W : FnOk P w K mg base CX0 2 fW dW P_bundle_text (spBundle K)
  aW : mg "bundle_text" = some (.ref fW)
  kW : PySem.W.keepIn K (.ref fW) = true
  bW : Binds K dW P_bundle_text []
  F : FnOk P w K mg base CX0 2 fF dF P_law_fault spFault
  aF : mg "_law_fault" = some (.ref fF)
  kF : PySem.W.keepIn K (.ref fF) = true
  bF : Binds K dF P_law_fault []
  O : FnOk P w K mg base CX0 5 fK dK P_law_told (spTold K B1 B2)
  aO : mg "_law_told" = some (.ref fK)
  kO : PySem.W.keepIn K (.ref fK) = true
  bO : Binds K dK P_law_told []
  C : FnOk P w K mg base CX0 2 fC dC P_law_changed spChanged
  aC : mg "_law_changed" = some (.ref fC)
  kC : PySem.W.keepIn K (.ref fC) = true
  bC : Binds K dC P_law_changed []
  R : FnOk P w K mg base CX0 5 fR dR P_references (spRefs B1 B2)
  aR : mg "references" = some (.ref fR)
  kR : PySem.W.keepIn K (.ref fR) = true
  bR : Binds K dR P_references []
theorem shaped_line (k : Int) : SeqAt.shaped (.tuple [.str "line", .int k]) = true := by
  unfold SeqAt.shaped
  have h : PyData.strOk ("line" : Str) = true := by decide +kernel
  simp [PyData.canLay0, PyData.canLayAll0, PyData.depth, PyData.depthAll, h]
theorem eqv_line (k : Int) : PyData.eqv (.tuple [.str "line", .int k]) (.tuple [.str "line", .int k]) = true := by
  simp [PyData.eqv, PyData.eqvAll]
section
variable {P : Program} {w : World} {K : PySem.W.Frag} {mg : Str → Option Value} {base : Heap} {cM cR cU B1 B2 fS fT fA fE fI fW fF fK fC fR : Addr} {dS dT dA dE dI dW dF dK dC dR : FuncData}
variable {f : Addr} {cdv : Value} {A : Around} {outer : List Env} {s : Shared} {H : Hp} {E : XK} {Q : VK}
theorem tail3 (T : Tx K mg cM cR cU) (G : Lawc P w K mg base cM cR cU B1 B2 fS fT fA fE fI fW fF fK fC fR dS dT dA dE dI dW dF dK dC dR)
    (hr : Room 5 (A.deeper (envOfC "law" (defScope s_law) s.heap.objs.size f cdv))) (hq : ∀ H', Q (.bl true) H') :
    ∃ t, PSs (cxOf CX0 P w K mg base N_law "law" (defScope s_law) f cdv A outer s H E).nox ((defBody s_law).drop 11) t ∧
      ∀ (a c : Addr) (b : Bool) (text : Str) (x0 x3 x4 x5 x7 x8 x9 x10 x11 x12 : Option V) (H9 : Hp), SL H9 a c → TabG H9 B1 → TabG H9 B2 → text.length ≤ 2000 → Asc text →
        t { nx := fun _ H' => Q .non H', rt := Q } [x0, some (.ref a), some (.str (word b)), x3, x4, x5, some (.str text), x7, x8, x9, x10, x11, x12] H9 := by
  have nd := sc_law.nd
  have hr2 := hr.mono (show 2 ≤ 5 by decide)
  refine ⟨_, pss_cons (ps_set (i := 8) nd rfl (Or.inl rfl) (pe_call G.C hr2 rfl G.aC G.kC G.bC .nil pass0 (pa_cons (pv 1) (pa_cons (pv 6) pa_nil))))
  (pss_cons (ps_set (i := 9) nd rfl (Or.inl rfl) (pe_call G.F hr2 rfl G.aF G.kF G.bF .nil pass0 (pa_cons (pv 2) (pa_cons (pv 8) pa_nil))))
  (pss_cons (ps_set (i := 10) nd rfl (Or.inl rfl) (pe_call G.O hr rfl G.aO G.kO G.bO .nil pass0 (pa_cons (pv 2) (pa_cons (pv 8) pa_nil))))
  (pss_cons (ps_if (pt_cmpR (op_neD hr.units) (pe_call G.R hr rfl G.aR G.kR G.bR .nil pass0 (pa_cons pe_str (pa_cons (pv 8) pa_nil))) (pe_lst pa_nil) (nomark _))
    (pss_one (ps_ret pe_bl))
    (pss_nil))
  (pss_cons (ps_if (pt_cmpR op_ge (pv 9) pe_int (nomark _))
    (pss_one (ps_ret (pe_and (pe_cmpR (op_eqD hr.units) (pv 10) (pe_tup (pa_cons pe_str (pa_cons (pv 9) pa_nil))) (nomark _)) (pe_one (pe_not (pe_callB call_isi (by rfl) T.isi (by decide +kernel) (pa_cons (pe_ix ix_tup (pv 10) pe_int (fun _ _ => rfl)) (pa_cons (pe_bltn (v := .ty "bool") (by rfl) T.bool (by decide +kernel) rfl) pa_nil))))))))
    (pss_nil))
  (pss_one (ps_ret (pe_and (pe_cmpR op_eq (pe_ix ix_tup (pv 10) pe_int (fun _ _ => rfl)) pe_str (nomark _)) (pe_one (pe_cmpR op_eq (pe_callB call_len_seq (by rfl) T.len (by decide +kernel) (pa_cons (pe_ix ix_tup (pv 10) pe_int (fun _ _ => rfl)) pa_nil)) (pe_op op_sub (pe_callB call_len_seq (by rfl) T.len (by decide +kernel) (pa_cons (pe_split (pv 8) pe_str) pa_nil)) pe_int) (nomark _)))))))))), ?_⟩
  intro a c b text x0 x3 x4 x5 x7 x8 x9 x10 x11 x12 H9 s9 t1 t2 hl hasc
  refine ⟨_, rfl, _, rfl, a, c, text, rfl, s9, hl, hasc, fun x H10 hx hxa s10 m10 => ?_⟩
  refine ⟨_, rfl, _, rfl, b, x, rfl, hx, hxa, fun H11 sm11 => ?_⟩
  have u1 := tab_same (m10.tab s9 t1) sm11
  have u2 := tab_same (m10.tab s9 t2) sm11
  have hsz : x.length + 2 ≤ sizeLine := by rw [sizeLine_eq]; omega
  cases hf : faultN b (lns x) with
  | some k =>
    refine ⟨_, rfl, _, rfl, b, x, rfl, hx, u1, u2, fun k' hk' T0 H12 nT g12 hT => ?_, fun hn => by rw [hf] at hn; cases hn⟩
    have ek : k' = k := by rw [hf] at hk'; exact (Option.some.inj hk').symm
    subst ek
    refine ⟨_, rfl, "layer", x, [], rfl, hx, g12.tab _ u1, g12.tab _ u2, .inr (.inr ⟨by decide, by decide, rfl⟩), fun p H13 np g13 hp13 => ?_⟩
    refine ⟨by show 0 ≤ sizeLine; decide, fun p2 np2 => ?_⟩
    have g14 := g13.upd (o := .lst []) np2
    refine ⟨.list [], .list [], .lst (SqL.of (xs := []) (by rw [upd_ne (ne_of_none hp13 np2)]; exact hp13)) .nil, .lst (SqL.of (xs := []) upd_same) .nil, by decide, by decide, _, rfl, iteF ?_⟩
    refine ⟨_, rfl, _, _, rfl, rfl, _, rfl, ?_⟩
    rw [show decide ((0 : Int) ≤ fv (some k')) = true from decide_eq_true (by show (0 : Int) ≤ (k' : Int); omega)]
    refine iteT ?_
    have hT14 := g14.tup hT
    refine ⟨_, rfl, _, rfl, by show 2 ≤ sizeLine; decide, fun T2 nT2 => ?_⟩
    have hT15 : (upd (upd H13 p2 (.lst [])) T2 (.tup [.str "line", .int (fv (some k'))])) T0 = some (.tup [.str "line", .int (k' : Int)]) := by
      rw [upd_ne (ne_of_none hT14 nT2)]
      exact hT14
    refine ⟨.tuple [.str "line", .int (k' : Int)], .tuple [.str "line", .int (k' : Int)], .tup (SqT.of hT15) (.cons (.str _) (.cons (.int _) .nil)), .tup (SqT.of upd_same) (.cons (.str _) (.cons (.int _) .nil)), shaped_line _, shaped_line _, _, rfl, ?_⟩
    rw [eqv_line]
    refine iteT ?_
    refine ⟨_, rfl, T0, _, 1, .int (k' : Int), rfl, rfl, SqT.of hT15, rfl, .int (k' : Int), .ty "bool", .type "int", .type "bool", false, rfl, .ty "bool", .base (.int _), kit_ty (by decide +kernel), false, rfl, ?_⟩
    exact hq _
  | none =>
    refine ⟨_, rfl, _, rfl, b, x, rfl, hx, u1, u2, (fun k' hk' => by rw [hf] at hk'; cases hk'), fun hn T0 p0 ts H12 nT g12 hT hp0 hI hB => ?_⟩
    have hbe : behN (word b) (lns x) = none := by
      cases e : behN (word b) (lns x) with
      | none => rfl
      | some k => rw [fault_beh e] at hf; cases hf
    have l2 : 2 ≤ (lns x).length := beh_two (lns_ne x) (by cases b <;> decide) hbe
    have lts : ts.length = (lns x).length - 2 := by
      cases b with
      | false => rw [hI rfl, List.length_map, mid_len]
      | true => rw [(hB rfl).len, List.length_map, mid_len]
    refine ⟨_, rfl, "layer", x, [], rfl, hx, g12.tab _ u1, g12.tab _ u2, .inr (.inr ⟨by decide, by decide, rfl⟩), fun p H13 np g13 hp13 => ?_⟩
    refine ⟨by show 0 ≤ sizeLine; decide, fun p2 np2 => ?_⟩
    have g14 := g13.upd (o := .lst []) np2
    refine ⟨.list [], .list [], .lst (SqL.of (xs := []) (by rw [upd_ne (ne_of_none hp13 np2)]; exact hp13)) .nil, .lst (SqL.of (xs := []) upd_same) .nil, by decide, by decide, _, rfl, iteF ?_⟩
    refine ⟨_, rfl, _, _, rfl, rfl, _, rfl, ?_⟩
    rw [show decide ((0 : Int) ≤ fv none) = false by decide]
    refine iteF ?_
    have hT14 := g14.tup hT
    have hp14 := g14.lst hp0
    refine ⟨_, rfl, T0, _, 0, .str "list", rfl, rfl, SqT.of hT14, rfl, rfl, _, rfl, ?_⟩
    refine iteT ?_
    refine ⟨_, rfl, T0, _, 1, .ref p0, rfl, rfl, SqT.of hT14, rfl, p0, ts, rfl, .inl (SqL.of hp14), ?_⟩
    refine ⟨_, rfl, ⟨x, rfl⟩, x, nl, rfl, rfl, by decide +kernel, hsz, fun q0 nq => ⟨q0, _, rfl, .inl (SqL.of upd_same), _, _, rfl, rfl, rfl, ?_⟩⟩
    have el : ((((Txt.split x nl).map V.str).length : Nat) : Int) - 2 = ((ts.length : Nat) : Int) := by
      rw [List.length_map, lts]
      show (((lns x).length : Nat) : Int) - 2 = (((lns x).length - 2 : Nat) : Int)
      omega
    rw [decide_eq_true (congrArg V.int el.symm)]
    exact hq _
end
end LW
namespace LW
open PySem PySem.Spec PyProof.Rows L2 GxR
/-- s[1] or t[1] -/
def rIxE (K : PySem.W.Frag) : R2 := fun x y H Q => rIxS x y H Q ∨ rIxT K x y H Q
theorem ix_either {X : Cx} : IxR X (rIxE X.K) := fun value slice pins s σ H x y v u Q I rx ry h hs => by
  rcases h with h | h
  · exact ix_str value slice pins s σ H x y v u Q I rx ry h hs
  · exact ix_tup value slice pins s σ H x y v u Q I rx ry h hs
/-- the text, and what must be read from it -/
inductive Due (K : PySem.W.Frag) (H : Hp) (n : Nat) : Bool → Str → Addr → List Str → PyData → Prop
  | img {D : Addr} {ls : List Str} (h : ∀ x ∈ ls, isAddr x = true) (l : ls.length = n) (e : H D = some (.lst (ls.map V.str))) : Due K H n false (textOf (word false :: ls)) D ls (.list (ls.map PyData.str))
  | bun {D : Addr} {es : List (Str × Str)} {ts : List V} (h : ∀ q ∈ es, isPlat q.1 = true ∧ isAddr q.2 = true) (nd : (es.map (·.1)).Nodup) (l1 : 1 ≤ es.length) (l6 : es.length ≤ 6) (e : H D = some (.lst ts)) (pr : Prs K H ts es) :
      Due K H n true (textOf (word true :: es.map ent)) D (es.map (·.2)) (.list (es.map fun q => PyData.tuple [.str q.1, .str q.2]))
theorem Asc.of_addr {x : Str} (h : isAddr x = true) : Asc x := fun c hc => by
  unfold isAddr at h
  rw [Bool.and_eq_true] at h
  have := of_decide_eq_true (List.all_eq_true.mp h.2 c hc)
  have key : ∀ c ∈ hexDigits, c < 1000 := by decide
  exact key c this
theorem Asc.of_plat {x : Str} (h : isPlat x = true) : Asc x := fun c hc => by
  unfold isPlat at h
  rw [Bool.and_eq_true] at h
  have := of_decide_eq_true (List.all_eq_true.mp h.2 c hc)
  have key : ∀ c ∈ letters, c < 1000 := by decide
  exact key c this
theorem word_asc (b : Bool) : Asc (word b) ∧ (word b).length ≤ 6 ∧ 10 ∉ TL.tl (word b) := by
  cases b
  · exact ⟨show ∀ c ∈ TL.tl (word false), c < 1000 by decide +kernel, by decide +kernel, by decide +kernel⟩
  · exact ⟨show ∀ c ∈ TL.tl (word true), c < 1000 by decide +kernel, by decide +kernel, by decide +kernel⟩
theorem ent_ok {q : Str × Str} (h : isPlat q.1 = true ∧ isAddr q.2 = true) : Asc (ent q) ∧ (ent q).length ≤ 27 ∧ 10 ∉ TL.tl (ent q) := by
  have p := plat_no h.1
  have a := addr_no h.2
  refine ⟨fun c hc => ?_, ?_, fun m => ?_⟩
  · rw [ent_tl] at hc
    rcases List.mem_append.mp hc with z | z
    · exact Asc.of_plat h.1 c z
    · rcases List.mem_cons.mp z with z | z
      · rw [z]; decide
      · exact Asc.of_addr h.2 c z
  · rw [TL.len_tl, ent_tl, List.length_append, List.length_cons, ← TL.len_tl, ← TL.len_tl]
    omega
  · rw [ent_tl] at m
    rcases List.mem_append.mp m with z | z
    · exact p.2.1 z
    · rcases List.mem_cons.mp z with z | z
      · cases z
      · exact a.2.1 z
theorem textOf_asc {ls : List Str} (h : ∀ l ∈ ls, Asc l) : Asc (textOf ls) := fun c hc => by
  rw [textOf_tl] at hc
  obtain ⟨p, hp, hcp⟩ := List.mem_flatten.mp hc
  obtain ⟨r, hr, rfl⟩ := List.mem_map.mp hp
  obtain ⟨l, hl, rfl⟩ := List.mem_map.mp hr
  rcases List.mem_append.mp hcp with z | z
  · exact h l hl c z
  · rw [List.mem_singleton.mp z]; decide
theorem lay_ents : ∀ es : List (Str × Str), (∀ q ∈ es, PyData.strOk q.1 = true ∧ PyData.strOk q.2 = true) → PyData.canLayAll0 (es.map fun q => PyData.tuple [.str q.1, .str q.2]) = true ∧ PyData.depthAll (es.map fun q => PyData.tuple [.str q.1, .str q.2]) ≤ 1
  | [], _ => ⟨rfl, by decide⟩
  | q :: r, h => by
    have ih := lay_ents r fun y hy => h y (List.mem_cons_of_mem _ hy)
    have hq := h q List.mem_cons_self
    constructor
    · rw [List.map_cons, PyData.canLayAll0, ih.1]
      simp [PyData.canLay0, PyData.canLayAll0, hq.1, hq.2]
    · rw [List.map_cons, PyData.depthAll]
      have : PyData.depth (PyData.tuple [.str q.1, .str q.2]) = 1 := by simp [PyData.depth, PyData.depthAll]
      rw [this]
      have := ih.2
      omega
theorem dp_ents {K : PySem.W.Frag} {H : Hp} {ts : List V} {es : List (Str × Str)} (h : Prs K H ts es) : DpAll K H ts (es.map fun q => PyData.tuple [.str q.1, .str q.2]) := by
  induction h with
  | nil => exact .nil
  | cons r _ ih =>
    obtain ⟨t, rfl, ht⟩ := r
    exact .cons (.tup (SqT.of ht) (.cons (.str _) (.cons (.str _) .nil))) ih
/-- what is known of the text -/
theorem Due.text {K : PySem.W.Frag} {H : Hp} {n : Nat} {b : Bool} {t : Str} {D : Addr} {ys : List Str} {d : PyData} (u : Due K H n b t D ys d) (hn : n ≤ 51) : t.length ≤ 2000 ∧ Asc t ∧ faultN b (lns t) = if b = false ∧ n = 51 then some 51 else none := by
  cases u with
  | img h l e =>
    have ok : ∀ x ∈ word false :: ys, Asc x ∧ x.length + 1 ≤ 17 ∧ 10 ∉ TL.tl x := fun x hx => by
      rcases List.mem_cons.mp hx with z | z
      · rw [z]
        have := word_asc false
        exact ⟨this.1, by omega, this.2.2⟩
      · have a := addr_no (h x z)
        exact ⟨Asc.of_addr (h x z), by omega, a.2.1⟩
    refine ⟨?_, textOf_asc fun l hl => (ok l hl).1, ?_⟩
    · rw [textOf_len]
      have := sum_le (fun l : Str => l.length + 1) 17 (word false :: ys) fun x hx => (ok x hx).2.1
      rw [List.length_cons] at this
      omega
    · rw [lns_textOf fun l hl => (ok l hl).2.2, fault_image h (by omega), l]
      simp
  | @bun D es ts h nd l1 l6 e pr =>
    have ok : ∀ x ∈ word true :: es.map ent, Asc x ∧ x.length + 1 ≤ 28 ∧ 10 ∉ TL.tl x := fun x hx => by
      rcases List.mem_cons.mp hx with z | z
      · rw [z]
        have := word_asc true
        exact ⟨this.1, by omega, this.2.2⟩
      · obtain ⟨q, hq, rfl⟩ := List.mem_map.mp z
        have := ent_ok (h q hq)
        exact ⟨this.1, by omega, this.2.2⟩
    refine ⟨?_, textOf_asc fun l hl => (ok l hl).1, ?_⟩
    · rw [textOf_len]
      have := sum_le (fun l : Str => l.length + 1) 28 (word true :: es.map ent) fun x hx => (ok x hx).2.1
      rw [List.length_cons, List.length_map] at this
      omega
    · rw [lns_textOf fun l hl => (ok l hl).2.2, fault_bundle h nd l1 (by omega)]
      simp
end LW
namespace LW
open PySem PySem.Spec PyProof.Rows L2 GxR
section
variable {K : PySem.W.Frag} {H H' : Hp} {n : Nat} {b : Bool} {t : Str} {D : Addr} {ys : List Str} {d : PyData}
theorem Due.mono (u : Due K H n b t D ys d) (g : Gr H H') : Due K H' n b t D ys d := by
  cases u with
  | img h l e => exact .img h l (g.lst e)
  | bun h nd l1 l6 e pr => exact .bun h nd l1 l6 (g.lst e) (pr.mono g)
theorem Due.data (u : Due K H n b t D ys d) : Dp K H (.ref D) d := by
  cases u with
  | img h l e => exact .lst (SqL.of e) (dp_strs _)
  | bun h nd l1 l6 e pr => exact .lst (SqL.of e) (dp_ents pr)
theorem Due.lay (u : Due K H n b t D ys d) : d.canLay0 = true ∧ d.depth ≤ 2 := by
  cases u with
  | img h l e =>
    have := lay_strs ys fun x hx => (Asc.of_addr (h x hx)).ok
    exact ⟨by rw [PyData.canLay0]; exact this.1, by rw [PyData.depth, this.2]; decide⟩
  | @bun D es ts h nd l1 l6 e pr =>
    have := lay_ents es fun q hq => ⟨(Asc.of_plat (h q hq).1).ok, (Asc.of_addr (h q hq).2).ok⟩
    exact ⟨by rw [PyData.canLay0]; exact this.1, by rw [PyData.depth]; have := this.2; omega⟩
theorem lay_list (l : d.canLay0 = true ∧ d.depth ≤ 2) : SeqAt.shaped (.tuple [.str "list", d]) = true ∧ PyData.eqv (.tuple [.str "list", d]) (.tuple [.str "list", d]) = true := by
  have h : PyData.strOk ("list" : Str) = true := by decide +kernel
  have c : PyData.canLay0 (.tuple [.str "list", d]) = true := by simp [PyData.canLay0, PyData.canLayAll0, h, l.1]
  refine ⟨?_, SeqAt.eqv_refl _ c⟩
  unfold SeqAt.shaped
  rw [c]
  have : PyData.depth (.tuple [.str "list", d]) ≤ 64 := by
    simp [PyData.depth, PyData.depthAll]
    omega
  rw [decide_eq_true this]
  rfl
theorem prt_ent {q : Str × Str} (h : isPlat q.1 = true ∧ isAddr q.2 = true) : prt (ent q) = q := by
  have := ent_part (p := q) (plat_no h.1).1
  unfold prt
  rw [this.1, this.2]
theorem Due.mids (u : Due K H n b t D ys d) : (b = false → mid (lns t) = ys) ∧ (b = true → (mid (lns t)).map adr = ys ∧ ∃ es : List (Str × Str), (mid (lns t)).map prt = es ∧ d = .list (es.map fun q => PyData.tuple [.str q.1, .str q.2])) ∧ (b = false → d = .list (ys.map PyData.str)) := by
  cases u with
  | img h l e =>
    refine ⟨fun _ => ?_, fun z => Bool.noConfusion z, fun _ => rfl⟩
    rw [lns_textOf fun l hl => ?_, mid_text]
    rcases List.mem_cons.mp hl with z | z
    · rw [z]; exact (word_asc false).2.2
    · exact (addr_no (h l z)).2.1
  | @bun D es ts h nd l1 l6 e pr =>
    have em : mid (lns (textOf (word true :: es.map ent))) = es.map ent := by
      rw [lns_textOf fun l hl => ?_, mid_text]
      rcases List.mem_cons.mp hl with z | z
      · rw [z]; exact (word_asc true).2.2
      · obtain ⟨q, hq, rfl⟩ := List.mem_map.mp z
        exact (ent_ok (h q hq)).2.2
    refine ⟨fun z => Bool.noConfusion z, fun _ => ⟨?_, es, ?_, rfl⟩, fun z => Bool.noConfusion z⟩
    · rw [em, List.map_map]
      exact List.map_congr_left fun q hq => (ent_part (plat_no (h q hq).1).1).2
    · rw [em, List.map_map]
      have : es.map (prt ∘ ent) = es.map id := List.map_congr_left fun q hq => prt_ent (h q hq)
      rw [this, List.map_id]
theorem Due.told (u : Due K H n b t D ys d) {p : Addr} {ts : List V} (hp : H' p = some (.lst ts)) (hI : b = false → ts = (mid (lns t)).map V.str) (hB : b = true → Prs K H' ts ((mid (lns t)).map prt)) : Dp K H' (.ref p) d := by
  have m := u.mids
  cases b with
  | false =>
    rw [m.2.2 rfl]
    rw [hI rfl, m.1 rfl] at hp
    exact .lst (SqL.of hp) (dp_strs _)
  | true =>
    obtain ⟨_, es, e1, e2⟩ := m.2.1 rfl
    have pr := hB rfl
    rw [e1] at pr
    rw [e2]
    exact .lst (SqL.of hp) (dp_ents pr)
theorem Due.len (u : Due K H n b t D ys d) (hn : n ≤ 51) : ys.length ≤ 51 ∧ ∀ y ∈ ys, PyData.strOk y = true := by
  cases u with
  | img h l e => exact ⟨by omega, fun y hy => (Asc.of_addr (h y hy)).ok⟩
  | bun h nd l1 l6 e pr =>
    refine ⟨by rw [List.length_map]; omega, fun y hy => ?_⟩
    obtain ⟨q, hq, rfl⟩ := List.mem_map.mp hy
    exact (Asc.of_addr (h q hq).2).ok
/-- the items of the list that is due -/
theorem Due.items (u : Due K H n b t D ys d) : ∃ zs : List V, H D = some (.lst zs) ∧ zs.length = ys.length ∧ ∀ (i : Nat) (v : V), zs[i]? = some v → ∃ y, ys[i]? = some y ∧
    ((b = false ∧ v = .str y ∧ y.length = 16) ∨ (b = true ∧ ∃ t0 x, v = .ref t0 ∧ H t0 = some (.tup [.str x, .str y]))) := by
  cases u with
  | img h l e =>
    refine ⟨_, e, List.length_map _, fun i v hv => ?_⟩
    rw [List.getElem?_map] at hv
    cases ey : ys[i]? with
    | none => rw [ey] at hv; cases hv
    | some y =>
      rw [ey] at hv
      cases hv
      exact ⟨y, rfl, .inl ⟨rfl, rfl, (addr_no (h y (List.mem_of_getElem? ey))).2.2⟩⟩
  | bun h nd l1 l6 e pr =>
    refine ⟨_, e, by rw [pr.len, List.length_map], fun i v hv => ?_⟩
    obtain ⟨p, t0, ep, rfl, ht⟩ := pr.get hv
    exact ⟨p.2, by rw [List.getElem?_map, ep]; rfl, .inr ⟨rfl, t0, p.1, rfl, ht⟩⟩
end
end LW
namespace LW
open PySem PySem.Spec PyProof.Rows L2 GxR
section
variable {P : Program} {w : World} {K : PySem.W.Frag} {mg : Str → Option Value} {base : Heap} {cM cR cU B1 B2 fS fT fA fE fI fW fF fK fC fR : Addr} {dS dT dA dE dI dW dF dK dC dR : FuncData}
variable {f : Addr} {cdv : Value} {A : Around} {outer : List Env} {s : Shared} {H : Hp} {E : XK} {Q : VK}
theorem tail2 (T : Tx K mg cM cR cU) (G : Lawc P w K mg base cM cR cU B1 B2 fS fT fA fE fI fW fF fK fC fR dS dT dA dE dI dW dF dK dC dR)
    (hr : Room 5 (A.deeper (envOfC "law" (defScope s_law) s.heap.objs.size f cdv))) (hq : ∀ H', Q (.bl true) H') :
    ∃ t, PSs (cxOf CX0 P w K mg base N_law "law" (defScope s_law) f cdv A outer s H E).nox ((defBody s_law).drop 9) t ∧
      ∀ (a c : Addr) (b : Bool) (n : Nat) (text : Str) (D : Addr) (ys : List Str) (d : PyData) (x0 x4 x5 : Option V) (H9 : Hp), SL H9 a c → TabG H9 B1 → TabG H9 B2 → n ≤ 51 → Due K H9 n b text D ys d →
        t { nx := fun _ H' => Q .non H', rt := Q } [x0, some (.ref a), some (.str (word b)), some (.int (n : Int)), x4, x5, some (.str text), some (.ref D), none, none, none, none, none] H9 := by
  obtain ⟨t3, h3, q3⟩ := tail3 (E := E) (H := H) (outer := outer) (f := f) (cdv := cdv) T G hr hq
  have nd := sc_law.nd
  have hr2 := hr.mono (show 2 ≤ 5 by decide)
  refine ⟨_, pss_cons (ps_if (pt_not (pt_val (pe_callB call_isi (by rfl) T.isi (by decide +kernel) (pa_cons (pv 6) (pa_cons (pe_bltn (v := .ty "str") (by rfl) T.str (by decide +kernel) rfl) pa_nil)))))
    (pss_one (ps_ret pe_bl))
    (pss_nil))
  (pss_cons (ps_if (pt_cmpR op_lt (pe_call G.F hr2 rfl G.aF G.kF G.bF .nil pass0 (pa_cons (pv 2) (pa_cons (pv 6) pa_nil))) pe_int (nomark _))
    (pss_cons (ps_if (PW.pt (pw_or (pt_cmpR (op_neD hr.units) (pe_call G.O hr rfl G.aO G.kO G.bO .nil pass0 (pa_cons (pv 2) (pa_cons (pv 6) pa_nil))) (pe_tup (pa_cons pe_str (pa_cons (pv 7) pa_nil))) (nomark _)) (pw_or1 (pt_not (pt_val (pe_callB call_isi (by rfl) T.isi (by decide +kernel) (pa_cons (pe_ix ix_tup (pe_call G.O hr rfl G.aO G.kO G.bO .nil pass0 (pa_cons (pv 2) (pa_cons (pv 6) pa_nil))) pe_int (fun _ _ => rfl)) (pa_cons (pe_bltn (v := .ty "list") (by rfl) T.list (by decide +kernel) rfl) pa_nil))))))))
    (pss_one (ps_ret pe_bl))
    (pss_nil))
  (pss_one (ps_if (pt_cmpR (op_neD hr.units) (pe_call G.R hr rfl G.aR G.kR G.bR .nil pass0 (pa_cons (pv 2) (pa_cons (pv 6) pa_nil))) (pe_lc (own := [("entry", 12)]) (g := gName 12) (tt := tYes) rfl nd (pi_list (pv 7)) (blkOk_by (N := N_law) (sc := defScope s_law) (by decide +kernel)) (fun _ _ _ _ _ => (pg_name (i := 12) nd rfl (Or.inl rfl))) (fun _ _ _ _ _ => pts_nil) (fun _ _ _ _ _ => (pe_ix (show IxR _ (rIxL K) from ix_list) (pe_lst (pa_cons (pv 12) (pa_cons (pe_ix (show IxR _ (rIxE K) from ix_either) (pv 12) pe_int (fun _ _ => rfl)) pa_nil))) (pe_callTy call_int1 (by rfl) T.int (by decide +kernel) (pa_cons (pe_cmpR op_eq (pv 2) pe_str (nomark _)) pa_nil)) (fun _ _ => rfl)))) (nomark _))
    (pss_one (ps_ret pe_bl))
    (pss_nil))))
    (pss_one (ps_if (PW.pt (pw_or (pt_cmpR op_ne (pv 3) pe_int (nomark _)) (pw_or (pt_cmpR op_ne (pv 2) pe_str (nomark _)) (pw_or1 (pt_cmpR (op_neD hr.units) (pe_call G.O hr rfl G.aO G.kO G.bO .nil pass0 (pa_cons (pv 2) (pa_cons (pv 6) pa_nil))) (pe_tup (pa_cons pe_str (pa_cons pe_int pa_nil))) (nomark _))))))
    (pss_one (ps_ret pe_bl))
    (pss_nil))))
  h3), ?_⟩
  intro a c b n text D ys d x0 x4 x5 H9 s9 t1 t2 hn51 u
  obtain ⟨hl, hasc, hf⟩ := u.text hn51
  have hlay := lay_list u.lay
  have hyl := u.len hn51
  have hm := u.mids
  refine ⟨_, rfl, .str text, .ty "str", .type "str", .type "str", true, rfl, .ty "str", .base (.str text), kit_ty (by decide +kernel), true, rfl, iteF ?_⟩
  refine ⟨_, rfl, _, rfl, b, text, rfl, by omega, hasc, fun H10 s10 => ⟨_, _, rfl, rfl, _, rfl, ?_⟩⟩
  have g10 : Gr H9 H10 := .of_same s10
  by_cases hx : b = false ∧ n = 51
  · -- too many lines
    rw [if_pos hx] at hf
    rw [hf, show decide (fv (some 51) < 0) = false by decide]
    obtain ⟨rfl, rfl⟩ := hx
    refine iteF ?_
    refine ⟨_, rfl, rfl, _, rfl, iteF ⟨_, rfl, rfl, _, rfl, iteF ?_⟩⟩
    refine ⟨_, rfl, _, rfl, false, text, rfl, by omega, g10.tab _ t1, g10.tab _ t2, fun k hk T0 H11 nT g11 hT => ?_, fun hn => by rw [hf] at hn; cases hn⟩
    have ek : k = 51 := by rw [hf] at hk; exact (Option.some.inj hk).symm
    subst ek
    refine ⟨by show 2 ≤ sizeLine; decide, fun T2 nT2 => ?_⟩
    have g12 := g11.upd (o := .tup [.str "line", .int 51]) nT2
    have hT2 : (upd H11 T2 (.tup [.str "line", .int 51])) T0 = some (.tup [.str "line", .int 51]) := by rw [upd_ne (ne_of_none hT nT2)]; exact hT
    refine ⟨.tuple [.str "line", .int 51], .tuple [.str "line", .int 51], .tup (SqT.of hT2) (.cons (.str _) (.cons (.int _) .nil)), .tup (SqT.of upd_same) (.cons (.str _) (.cons (.int _) .nil)), shaped_line _, shaped_line _, _, rfl, ?_⟩
    rw [eqv_line]
    refine iteF ?_
    have g13 := g10.trans g12
    exact q3 a c false text _ _ _ _ _ _ _ _ _ _ _ (g13.SL s9) (g13.tab _ t1) (g13.tab _ t2) hl hasc
  · rw [if_neg hx] at hf
    rw [hf, show decide (fv none < 0) = true by decide]
    refine iteT ?_
    refine ⟨_, rfl, _, rfl, b, text, rfl, by omega, g10.tab _ t1, g10.tab _ t2, (fun k hk => by rw [hf] at hk; cases hk), fun hn T0 p0 ts H11 nT g11 hT hp0 hI hB => ?_⟩
    have ga := g10.trans g11
    refine ⟨_, rfl, by show 2 ≤ sizeLine; decide, fun T2 nT2 => ?_⟩
    have g12 := ga.upd (o := .tup [.str "list", .ref D]) nT2
    have gb : Gr H11 (upd H11 T2 (.tup [.str "list", .ref D])) := (Gr.refl _).upd nT2
    have u12 := u.mono g12
    have dp0 : Dp K (upd H11 T2 (.tup [.str "list", .ref D])) (.ref p0) d := u.told (gb.lst hp0) hI (fun hb => (hB hb).mono gb)
    refine ⟨.tuple [.str "list", d], .tuple [.str "list", d], .tup (SqT.of (gb.tup hT)) (.cons (.str _) (.cons dp0 .nil)), .tup (SqT.of upd_same) (.cons (.str _) (.cons u12.data .nil)), hlay.1, hlay.1, _, rfl, ?_⟩
    rw [hlay.2]
    refine iteF ?_
    refine ⟨_, rfl, _, rfl, b, text, rfl, by omega, g12.tab _ t1, g12.tab _ t2, (fun k hk => by rw [hf] at hk; cases hk), fun hn T3 p3 ts3 H13 nT3 g13 hT3 hp3 hI3 hB3 => ?_⟩
    refine ⟨T3, _, 1, .ref p3, rfl, rfl, SqT.of hT3, rfl, .ref p3, .ty "list", .type "list", .type "list", true, rfl, .ty "list", .base (.lst hp3), kit_ty (by decide +kernel), true, rfl, iteF ?_⟩
    have gc := g12.trans g13
    -- references
    refine ⟨_, rfl, _, rfl, word b, text, ys, rfl, by omega, gc.tab _ t1, gc.tab _ t2, ?_, fun p4 H14 np4 g14 hp4 => ?_⟩
    · cases b with
      | false => exact .inl ⟨rfl, hf, (hm.1 rfl).symm⟩
      | true => exact .inr (.inl ⟨rfl, hf, (hm.2.1 rfl).1.symm⟩)
    have gd := gc.trans g14
    have u14 := u.mono gd
    obtain ⟨zs, hz, lz, iz⟩ := u14.items
    refine ⟨_, rfl, D, rfl, ⟨_, SqL.of hz⟩, fun D2 nD2 => ?_⟩
    have np4D : p4 ≠ D2 := ne_of_none hp4 nD2
    have two : ∀ y : Str, y.length = 16 → ∃ cc, atI y.cps.toList 1 = some cc := fun y hy => by
      have hl : 1 < y.cps.toList.length := by
        have : y.cps.toList.length = y.length := (TL.len_tl y).symm
        omega
      exact ⟨y.cps.toList[1], atI_nat (j := 1) (List.getElem?_eq_getElem hl)⟩
    refine lc_it (walk_list (K := K) (a := D) (xs := zs)) (fun i H' => Same H14 H' ∧ H' D2 = some (.lst ((ys.take i).map V.str))) ⟨same_upd nD2, upd_same⟩ (fun i H' _ h => SqL.of (h.1 _ _ hz)) ?_ ?_
    · rintro i x H15 H16 hi ⟨sm, hD2⟩ ⟨rfl, hxi⟩
      obtain ⟨y, hy, hcase⟩ := iz i x hxi
      have ety : ys.take (i + 1) = ys.take i ++ [y] := by rw [List.take_add_one, hy]; rfl
      have fin : ∀ (pl : Addr) (o : HO), H16 pl = none → ∃ acc, (upd H16 pl o) D2 = some (.lst acc) ∧ acc.length < sizeLine ∧ Same H14 (upd (upd H16 pl o) D2 (.lst (acc ++ [.str y]))) ∧ (upd (upd H16 pl o) D2 (.lst (acc ++ [.str y]))) D2 = some (.lst ((ys.take (i + 1)).map V.str)) := fun pl o npl => by
        refine ⟨_, by rw [upd_ne (ne_of_none hD2 npl)]; exact hD2, ?_, same_new (sm.trans (same_upd npl)) nD2, ?_⟩
        · rw [List.length_map, List.length_take, sizeLine_eq]
          have := hyl.1
          omega
        · rw [upd_same, ety, List.map_append]
          rfl
      refine ⟨rfl, tyes ?_⟩
      rcases hcase with ⟨rfl, rfl, hy16⟩ | ⟨rfl, t0, x1, rfl, ht0⟩
      · obtain ⟨cc, hcc⟩ := two y hy16
        refine ⟨_, rfl, _, rfl, .inl ⟨y, 1, cc, rfl, rfl, by rw [hy16]; decide, hcc, by show 2 ≤ sizeLine; decide, fun pl npl => ⟨_, rfl, rfl, .inr ⟨_, rfl, pl, _, 0, .str y, rfl, rfl, SqL.of upd_same, rfl, fin pl _ npl⟩⟩⟩⟩
      · refine ⟨_, rfl, _, rfl, .inr ⟨t0, _, 1, .str y, rfl, rfl, SqT.of (sm _ _ ht0), rfl, by show 2 ≤ sizeLine; decide, fun pl npl => ⟨_, rfl, rfl, .inr ⟨_, rfl, pl, _, 1, .str y, rfl, rfl, SqL.of upd_same, rfl, fin pl _ npl⟩⟩⟩⟩
    · rintro H15 ⟨sm, hD2⟩
      have eall : ys.take zs.length = ys := List.take_of_length_le (by omega)
      rw [eall] at hD2
      have lay := lay_strs ys hyl.2
      refine ⟨.list (ys.map PyData.str), .list (ys.map PyData.str), .lst (SqL.of (sm _ _ hp4)) (dp_strs _), .lst (SqL.of hD2) (dp_strs _), shaped_strs hyl.2, shaped_strs hyl.2, _, rfl, ?_⟩
      rw [SeqAt.eqv_refl _ (by rw [PyData.canLay0]; exact lay.1)]
      refine iteF ?_
      have ge := gd.trans (.of_same sm)
      exact q3 a c b text _ _ _ _ _ _ _ _ _ _ _ (ge.SL s9) (ge.tab _ t1) (ge.tab _ t2) hl hasc
end
end LW
namespace LW
open PySem PySem.Spec PyProof.Rows L2 GxR
section
variable {P : Program} {w : World} {K : PySem.W.Frag} {mg : Str → Option Value} {base : Heap} {cM cR cU B1 B2 fS fT fA fE fI fW fF fK fC fR : Addr} {dS dT dA dE dI dW dF dK dC dR : FuncData}
variable {f : Addr} {cdv : Value} {A : Around} {outer : List Env} {s : Shared} {H : Hp} {E : XK} {Q : VK}
theorem tail1 (T : Tx K mg cM cR cU) (G : Lawc P w K mg base cM cR cU B1 B2 fS fT fA fE fI fW fF fK fC fR dS dT dA dE dI dW dF dK dC dR)
    (hr : Room 5 (A.deeper (envOfC "law" (defScope s_law) s.heap.objs.size f cdv))) (hq : ∀ H', Q (.bl true) H') :
    ∃ t, PSs (cxOf CX0 P w K mg base N_law "law" (defScope s_law) f cdv A outer s H E).nox ((defBody s_law).drop 4) t ∧
      ∀ (a c : Addr) (b : Bool) (n : Nat) (x0 : Option V) (H5 : Hp), SL H5 a c → TabG H5 B1 → TabG H5 B2 → n ≤ 51 →
        t { nx := fun _ H' => Q .non H', rt := Q } [x0, some (.ref a), some (.str (word b)), some (.int (n : Int)), none, none, none, none, none, none, none, none, none] H5 := by
  obtain ⟨t2', h2', q2'⟩ := tail2 (E := E) (H := H) (outer := outer) (f := f) (cdv := cdv) T G hr hq
  have nd := sc_law.nd
  have hr2 := hr.mono (show 2 ≤ 5 by decide)
  have hr3 := hr.mono (show 3 ≤ 5 by decide)
  refine ⟨_, pss_cons (ps_setLc (i := 4) (own := [("k", 11)]) (g := gName 11) (tt := tYes) rfl nd rfl rfl (sw_true rfl rfl rfl (by decide +kernel)) (pi_range1 (by rfl) T.range (pa_cons (pv 3) pa_nil)) (blkOk_by (N := N_law) (sc := defScope s_law) (by decide +kernel)) (fun _ _ _ _ _ => (pg_name (i := 11) nd rfl (Or.inl rfl))) (fun _ _ _ _ _ => pts_nil) (fun _ _ _ _ _ => (pe_call G.A hr2 rfl G.aA G.kA G.bA .nil pass0 (pa_cons (pv 1) pa_nil))))
  (pss_cons (ps_set (i := 5) nd rfl (Or.inl rfl) (pe_call G.E hr3 rfl G.aE G.kE G.bE .nil pass0 (pa_cons (pv 1) pa_nil)))
  (pss_cons (ps_set (i := 6) nd rfl (Or.inl rfl) (pe_call G.I hr2 rfl G.aI G.kI G.bI .nil pass0 (pa_cons (pe_callTy call_list_of (by rfl) T.list (by decide +kernel) (pa_cons (pv 4) pa_nil)) pa_nil)))
  (pss_cons (ps_set (i := 7) nd rfl (Or.inl rfl) (pv 4))
  (pss_cons (ps_if (pt_cmpR op_eq (pv 2) pe_str (nomark _))
    (pss_cons (ps_set (i := 6) nd rfl (Or.inl rfl) (pe_call G.W hr2 rfl G.aW G.kW G.bW .nil pass0 (pa_cons (pe_callTy call_list_of (by rfl) T.list (by decide +kernel) (pa_cons (pv 5) pa_nil)) pa_nil)))
  (pss_one (ps_set (i := 7) nd rfl (Or.inl rfl) (pv 5))))
    (pss_nil))
  h2')))), ?_⟩
  intro a c b n x0 H5 s5 t1 t2 hn
  refine ⟨_, rfl, _, rfl, by omega, by omega, fun D nD => ?_⟩
  have nDa := s5.ne nD
  refine lc_range (lo := 0) (n := n) (fun i H' => ∃ ls : List Str, ls.length = i ∧ (∀ x ∈ ls, isAddr x = true) ∧ H' D = some (.lst (ls.map V.str)) ∧ SL H' a c ∧ Mv a c H5 H')
    ⟨[], rfl, (by simp), upd_same, s5.same (same_upd nD), (Mv.refl a c H5).new nD⟩ ?_ ?_
  · rintro i H6 hi ⟨ls, ll, hx, hD, s6, m6⟩
    refine ⟨rfl, tyes ?_⟩
    refine ⟨_, rfl, a, c, rfl, s6, fun x H7 hxa s7 m7 => ⟨_, m7.keep D _ nDa.1 nDa.2 hD, ?_, ls ++ [x], by simp [ll], ?_, ?_, ?_, ?_⟩⟩
    · rw [List.length_map, ll, sizeLine_eq]
      omega
    · intro y hy
      rcases List.mem_append.mp hy with h | h
      · exact hx y h
      · rw [List.mem_singleton.mp h]; exact hxa
    · rw [upd_same, List.map_append]
      rfl
    · exact s7.eq (upd_ne nDa.1.symm) (upd_ne nDa.2.symm)
    · exact (m6.trans m7).new nD
  · rintro H6 ⟨ls, ll, hx, hD, s6, m6⟩
    refine ⟨_, rfl, a, c, rfl, s6, fun p2 ts es H7 np2 hp2 hP hes hnd he1 he6 n1 n2 s7 m7 => ?_⟩
    have hD7 := m7.keep D _ nDa.1 nDa.2 hD
    have m57 := m6.trans m7
    have u1 := m57.tab s5 t1
    have u2 := m57.tab s5 t2
    have lx : ∀ x ∈ ls, x.length ≤ 1000 := fun x hxm => by
      have := (addr_no (hx x hxm)).2.2
      omega
    refine ⟨_, rfl, D, _, rfl, .inl (SqL.of hD7), fun l0 nl0 => ⟨l0, ls, rfl, SqL.of upd_same, by omega, lx, fun H8 s8 => ?_⟩⟩
    have g8 : Gr H7 H8 := .of_same ((same_upd nl0).trans s8)
    refine ⟨_, rfl, _, rfl, rfl, _, rfl, ?_⟩
    rw [eq_str]
    cases b with
    | false =>
      refine iteF ?_
      exact q2' a c false n _ D ls _ _ _ _ H8 (g8.SL s7) (g8.tab _ u1) (g8.tab _ u2) hn (.img hx ll (g8.lst hD7))
    | true =>
      refine iteT ?_
      refine ⟨_, rfl, p2, _, rfl, .inl (SqL.of (g8.lst hp2)), fun l1 nl1 => ⟨l1, ts, es, rfl, SqL.of upd_same, (hP.mono g8).mono ((Gr.refl _).upd nl1), by omega, fun q hqm => ?_, fun H9 s9 => ⟨_, rfl, ?_⟩⟩⟩
      · have p := plat_no (hes q hqm).1
        have ad := addr_no (hes q hqm).2
        omega
      · have g9 := g8.trans (.of_same ((same_upd nl1).trans s9))
        exact q2' a c true n _ p2 _ _ _ _ _ H9 (g9.SL s7) (g9.tab _ u1) (g9.tab _ u2) hn (.bun hes hnd he1 he6 (g9.lst hp2) (hP.mono g9))
def spLaw (K : PySem.W.Frag) (B1 B2 : Addr) : Sp := fun vs H Q _ => ∃ (l : Addr) (ns : List Int), vs = [.ref l] ∧ SqL K H l (ns.map V.int) ∧ ns.length ≤ 63 ∧ TabG H B1 ∧ TabG H B2 ∧ ∀ H', Q (.bl true) H'
theorem ok_law {f : Addr} {fd : FuncData} (F : Fun K "law" "law" s_law f fd) (T : Tx K mg cM cR cU) (G : Lawc P w K mg base cM cR cU B1 B2 fS fT fA fE fI fW fF fK fC fR dS dT dA dE dI dW dF dK dC dR) :
    FnOk P w K mg base CX0 6 f fd P_law (spLaw K B1 B2) := by
  refine F.ok sc_law (fun vs H Q E h => ?_) (fun cdv A outer s H vs Q E hr h => ?_)
  · obtain ⟨l, ns, rfl, _⟩ := h
    rfl
  · obtain ⟨l, ns, rfl, hS, hl, hB1, hB2, hq⟩ := h
    obtain ⟨t1', h1', q1'⟩ := tail1 (E := E) (H := H) (outer := outer) (f := f) (cdv := cdv) T G hr hq
    have nd := sc_law.nd
    have hr1 := hr.mono (show 1 ≤ 5 by decide)
    refine ⟨_, pss_cons (ps_set (i := 1) nd rfl (.inr rfl) (pe_call G.S hr1 rfl G.aS G.kS G.bS .nil pass0 (pa_cons (pv 0) pa_nil)))
  (pss_cons (ps_set (i := 2) nd rfl (.inr rfl) (pe_ix ix_list (pe_lst (pa_cons pe_str (pa_cons pe_str pa_nil))) (pe_call G.T hr1 rfl G.aT G.kT G.bT .nil pass0 (pa_cons (pv 1) (pa_cons pe_int pa_nil))) (fun _ _ => rfl)))
  (pss_cons (ps_set (i := 3) nd rfl (Or.inl rfl) (pe_call G.T hr1 rfl G.aT G.kT G.bT .nil pass0 (pa_cons (pv 1) (pa_cons pe_int pa_nil))))
  (pss_cons (ps_if (pt_cmpR op_eq (pe_call G.T hr1 rfl G.aT G.kT G.bT .nil pass0 (pa_cons (pv 1) (pa_cons pe_int pa_nil))) pe_int (nomark _))
    (pss_one (ps_set (i := 3) nd rfl (Or.inl rfl) (pe_op op_add pe_int (pe_call G.T hr1 rfl G.aT G.kT G.bT .nil pass0 (pa_cons (pv 1) (pa_cons pe_int pa_nil))))))
    (pss_nil))
  h1'))), ?_⟩
    refine ⟨_, rfl, l, ns, rfl, hS, hl, fun a c H1 na nc sm1 s1 => ?_⟩
    have b1 := tab_same hB1 sm1
    have b2 := tab_same hB2 sm1
    refine ⟨by show 2 ≤ sizeLine; decide, fun p np => ⟨_, rfl, a, c, 2, rfl, s1.same (same_upd np), by decide, by decide, fun v H2 v0 v2 e2 s2 => ?_⟩⟩
    have npa := s1.ne np
    obtain ⟨kj, rfl, hkj⟩ := nat_of v0 v2
    have m2 : Mv a c H1 H2 := ((Mv.refl a c H1).new np).trans (Mv.take (s1.same (same_upd np)) s2 e2)
    have hp : SqL K H2 p (([word false, word true] : List Str).map V.str) := SqL.of (by rw [e2 p npa.1 npa.2, upd_same]; rfl)
    obtain ⟨b, hb⟩ : ∃ b : Bool, ([word false, word true] : List Str)[kj]? = some (word b) := by
      have : kj = 0 ∨ kj = 1 := by omega
      rcases this with rfl | rfl
      · exact ⟨false, rfl⟩
      · exact ⟨true, rfl⟩
    refine ⟨p, _, _, .str (word b), rfl, rfl, hp, atI_nat (by rw [List.getElem?_map, hb]; rfl), ?_⟩
    refine ⟨_, rfl, a, c, 7, rfl, s2, by decide, by decide, fun v H3 v0 v7 e3 s3 => ?_⟩
    obtain ⟨n0, rfl, hn0⟩ := nat_of v0 v7
    have m3 := m2.trans (Mv.take s2 s3 e3)
    refine ⟨_, rfl, a, c, 8, rfl, s3, by decide, by decide, fun v H4 v0 v8 e4 s4 => ⟨rfl, _, rfl, ite2 (fun _ => ?_) (fun _ => ?_)⟩⟩
    · refine ⟨_, rfl, a, c, 2, rfl, s4, by decide, by decide, fun u H5 u0 u2 e5 s5 => ⟨_, _, rfl, rfl, ?_⟩⟩
      obtain ⟨n1, rfl, hn1⟩ := nat_of u0 u2
      have m5 := (m3.trans (Mv.take s3 s4 e4)).trans (Mv.take s4 s5 e5)
      have en : (50 : Int) + (n1 : Int) = ((50 + n1 : Nat) : Int) := by omega
      have := q1' a c b (50 + n1) (some (.ref l)) H5 s5 (m5.tab s1 b1) (m5.tab s1 b2) (by omega)
      rw [← en] at this
      exact this
    · have m4 := m3.trans (Mv.take s3 s4 e4)
      exact q1' a c b n0 (some (.ref l)) H4 s4 (m4.tab s1 b1) (m4.tab s1 b2) (by omega)
end
end LW
namespace LW
open PySem PySem.Spec PyProof.Rows L2 GxR
theorem all_mk {l : PySem.W.OpenLaw} {w : World} {K : PySem.W.Frag} {h : Heap} {mg : Str → Option Value} {fa B1 B2 : Addr}
    {f_ia c_ia : Addr} {oc_ia kV_ia dc_ia pm_ia ct_ia : Value} {od_ia an_ia : Option Addr} {sl_ia : Array (Option Value)}
    {f_ip c_ip : Addr} {oc_ip kV_ip dc_ip pm_ip ct_ip : Value} {od_ip an_ip : Option Addr} {sl_ip : Array (Option Value)}
    {f_it : Addr} {oc_it kV_it dc_it pm_it ct_it cd_it : Value} {od_it an_it : Option Addr} {sl_it : Array (Option Value)}
    {f_bt : Addr} {oc_bt kV_bt dc_bt pm_bt ct_bt cd_bt : Value} {od_bt an_bt : Option Addr} {sl_bt : Array (Option Value)}
    {f_ri : Addr} {oc_ri kV_ri dc_ri pm_ri ct_ri cd_ri : Value} {od_ri an_ri : Option Addr} {sl_ri : Array (Option Value)}
    {f_rb : Addr} {oc_rb kV_rb dc_rb pm_rb ct_rb cd_rb : Value} {od_rb an_rb : Option Addr} {sl_rb : Array (Option Value)}
    {f_rf : Addr} {oc_rf kV_rf dc_rf pm_rf ct_rf cd_rf : Value} {od_rf an_rf : Option Addr} {sl_rf : Array (Option Value)}
    {f_to : Addr} {oc_to kV_to dc_to pm_to ct_to cd_to : Value} {od_to an_to : Option Addr} {sl_to : Array (Option Value)}
    {f_lb : Addr} {oc_lb kV_lb dc_lb pm_lb ct_lb cd_lb : Value} {od_lb an_lb : Option Addr} {sl_lb : Array (Option Value)}
    {f_ls : Addr} {oc_ls kV_ls dc_ls pm_ls ct_ls cd_ls : Value} {od_ls an_ls : Option Addr} {sl_ls : Array (Option Value)}
    {f_lt : Addr} {oc_lt kV_lt dc_lt pm_lt ct_lt cd_lt : Value} {od_lt an_lt : Option Addr} {sl_lt : Array (Option Value)}
    {f_la : Addr} {oc_la kV_la dc_la pm_la ct_la cd_la : Value} {od_la an_la : Option Addr} {sl_la : Array (Option Value)}
    {f_le : Addr} {oc_le kV_le dc_le pm_le ct_le cd_le : Value} {od_le an_le : Option Addr} {sl_le : Array (Option Value)}
    {f_li : Addr} {oc_li kV_li dc_li pm_li ct_li cd_li : Value} {od_li an_li : Option Addr} {sl_li : Array (Option Value)}
    {f_lp : Addr} {oc_lp kV_lp dc_lp pm_lp ct_lp cd_lp : Value} {od_lp an_lp : Option Addr} {sl_lp : Array (Option Value)}
    {f_lf : Addr} {oc_lf kV_lf dc_lf pm_lf ct_lf cd_lf : Value} {od_lf an_lf : Option Addr} {sl_lf : Array (Option Value)}
    {f_lo : Addr} {oc_lo kV_lo dc_lo pm_lo ct_lo cd_lo : Value} {od_lo an_lo : Option Addr} {sl_lo : Array (Option Value)}
    {f_lc : Addr} {oc_lc kV_lc dc_lc pm_lc ct_lc cd_lc : Value} {od_lc an_lc : Option Addr} {sl_lc : Array (Option Value)}
    {f_lw : Addr} {oc_lw kV_lw dc_lw pm_lw ct_lw cd_lw : Value} {od_lw an_lw : Option Addr} {sl_lw : Array (Option Value)}
    {t0 : Tok}
    {t1 : Tok}
    {t2 : Tok}
    {t3 : Tok}
    {t4 : Tok}
    {t5 : Tok}
    {t6 : Tok}
    {cM cR cU : Addr}
    {nm q : Str} {N : Addr} {bs : List Value} {sn : List Str} {sub : List Value} {ab : Bool} {col : Option Bool} {dd : Option Addr} {m0 m1 m2 m3 m5 : Option Value}
    {f1 : Addr}
    {oc1 kV1 dc1 pm1 ct1 : Value} {od1 an1 : Option Addr} {cda cc : Addr} {sl1 : Array (Option Value)}
    {ccl : Value} {ccd : Option Addr} {ccs : Array (Option Value)}
    {dcl : Value} {dcd : Option Addr} {dcs : Array (Option Value)} {vs : Array Value}
    {file : Str} {tf : Tok}
    (X : K.In h) (G : h.Ns mainGlobals mg) (hfa : mg "law" = some (.ref fa))
    (tb1 : PySem.W.CodeHd h c_ia B1 ∧ h.get? B1 = some { cls := .none, data := .fields #[] }) (nB1 : K.lookup B1 = none)
    (tb2 : PySem.W.CodeHd h c_ip B2 ∧ h.get? B2 = some { cls := .none, data := .fields #[] }) (nB2 : K.lookup B2 = none)
    (a_ia : PySem.W.nsIn K mainGlobals "is_address" = some (some (.ref f_ia)))
    (l_ia : K.lookup f_ia = some ⟨oc_ia, od_ia, .func (PySem.W.fnOf "is_address" "is_address" (defArgs s_is_address) (defBody s_is_address) (defScope s_is_address) .none kV_ia dc_ia pm_ia an_ia (.ref c_ia) ct_ia), sl_ia⟩)
    (cc_ia : PySem.W.codeIn K (.ref c_ia) "is_address" = true)
    (k_ia : PySem.W.keepIn K (.ref f_ia) = true)
    (a_ip : PySem.W.nsIn K mainGlobals "_is_platform" = some (some (.ref f_ip)))
    (l_ip : K.lookup f_ip = some ⟨oc_ip, od_ip, .func (PySem.W.fnOf "_is_platform" "_is_platform" (defArgs s_is_platform) (defBody s_is_platform) (defScope s_is_platform) .none kV_ip dc_ip pm_ip an_ip (.ref c_ip) ct_ip), sl_ip⟩)
    (cc_ip : PySem.W.codeIn K (.ref c_ip) "_is_platform" = true)
    (k_ip : PySem.W.keepIn K (.ref f_ip) = true)
    (a_it : PySem.W.nsIn K mainGlobals "image_text" = some (some (.ref f_it)))
    (l_it : K.lookup f_it = some ⟨oc_it, od_it, .func (PySem.W.fnOf "image_text" "image_text" (defArgs s_image_text) (defBody s_image_text) (defScope s_image_text) .none kV_it dc_it pm_it an_it cd_it ct_it), sl_it⟩)
    (cc_it : PySem.W.codeIn K cd_it "image_text" = true)
    (k_it : PySem.W.keepIn K (.ref f_it) = true)
    (a_bt : PySem.W.nsIn K mainGlobals "bundle_text" = some (some (.ref f_bt)))
    (l_bt : K.lookup f_bt = some ⟨oc_bt, od_bt, .func (PySem.W.fnOf "bundle_text" "bundle_text" (defArgs s_bundle_text) (defBody s_bundle_text) (defScope s_bundle_text) .none kV_bt dc_bt pm_bt an_bt cd_bt ct_bt), sl_bt⟩)
    (cc_bt : PySem.W.codeIn K cd_bt "bundle_text" = true)
    (k_bt : PySem.W.keepIn K (.ref f_bt) = true)
    (a_ri : PySem.W.nsIn K mainGlobals "read_image" = some (some (.ref f_ri)))
    (l_ri : K.lookup f_ri = some ⟨oc_ri, od_ri, .func (PySem.W.fnOf "read_image" "read_image" (defArgs s_read_image) (defBody s_read_image) (defScope s_read_image) .none kV_ri dc_ri pm_ri an_ri cd_ri ct_ri), sl_ri⟩)
    (cc_ri : PySem.W.codeIn K cd_ri "read_image" = true)
    (k_ri : PySem.W.keepIn K (.ref f_ri) = true)
    (a_rb : PySem.W.nsIn K mainGlobals "read_bundle" = some (some (.ref f_rb)))
    (l_rb : K.lookup f_rb = some ⟨oc_rb, od_rb, .func (PySem.W.fnOf "read_bundle" "read_bundle" (defArgs s_read_bundle) (defBody s_read_bundle) (defScope s_read_bundle) .none kV_rb dc_rb pm_rb an_rb cd_rb ct_rb), sl_rb⟩)
    (cc_rb : PySem.W.codeIn K cd_rb "read_bundle" = true)
    (k_rb : PySem.W.keepIn K (.ref f_rb) = true)
    (a_rf : PySem.W.nsIn K mainGlobals "references" = some (some (.ref f_rf)))
    (l_rf : K.lookup f_rf = some ⟨oc_rf, od_rf, .func (PySem.W.fnOf "references" "references" (defArgs s_references) (defBody s_references) (defScope s_references) .none kV_rf dc_rf pm_rf an_rf cd_rf ct_rf), sl_rf⟩)
    (cc_rf : PySem.W.codeIn K cd_rf "references" = true)
    (k_rf : PySem.W.keepIn K (.ref f_rf) = true)
    (a_to : PySem.W.nsIn K mainGlobals "_text_of" = some (some (.ref f_to)))
    (l_to : K.lookup f_to = some ⟨oc_to, od_to, .func (PySem.W.fnOf "_text_of" "_text_of" (defArgs s_text_of) (defBody s_text_of) (defScope s_text_of) .none kV_to dc_to pm_to an_to cd_to ct_to), sl_to⟩)
    (cc_to : PySem.W.codeIn K cd_to "_text_of" = true)
    (k_to : PySem.W.keepIn K (.ref f_to) = true)
    (a_lb : PySem.W.nsIn K mainGlobals "_lines_behind" = some (some (.ref f_lb)))
    (l_lb : K.lookup f_lb = some ⟨oc_lb, od_lb, .func (PySem.W.fnOf "_lines_behind" "_lines_behind" (defArgs s_lines_behind) (defBody s_lines_behind) (defScope s_lines_behind) .none kV_lb dc_lb pm_lb an_lb cd_lb ct_lb), sl_lb⟩)
    (cc_lb : PySem.W.codeIn K cd_lb "_lines_behind" = true)
    (k_lb : PySem.W.keepIn K (.ref f_lb) = true)
    (a_ls : PySem.W.nsIn K mainGlobals "_law_state" = some (some (.ref f_ls)))
    (l_ls : K.lookup f_ls = some ⟨oc_ls, od_ls, .func (PySem.W.fnOf "_law_state" "_law_state" (defArgs s_law_state) (defBody s_law_state) (defScope s_law_state) .none kV_ls dc_ls pm_ls an_ls cd_ls ct_ls), sl_ls⟩)
    (cc_ls : PySem.W.codeIn K cd_ls "_law_state" = true)
    (k_ls : PySem.W.keepIn K (.ref f_ls) = true)
    (a_lt : PySem.W.nsIn K mainGlobals "_law_take" = some (some (.ref f_lt)))
    (l_lt : K.lookup f_lt = some ⟨oc_lt, od_lt, .func (PySem.W.fnOf "_law_take" "_law_take" (defArgs s_law_take) (defBody s_law_take) (defScope s_law_take) .none kV_lt dc_lt pm_lt an_lt cd_lt ct_lt), sl_lt⟩)
    (cc_lt : PySem.W.codeIn K cd_lt "_law_take" = true)
    (k_lt : PySem.W.keepIn K (.ref f_lt) = true)
    (a_la : PySem.W.nsIn K mainGlobals "_law_address" = some (some (.ref f_la)))
    (l_la : K.lookup f_la = some ⟨oc_la, od_la, .func (PySem.W.fnOf "_law_address" "_law_address" (defArgs s_law_address) (defBody s_law_address) (defScope s_law_address) .none kV_la dc_la pm_la an_la cd_la ct_la), sl_la⟩)
    (cc_la : PySem.W.codeIn K cd_la "_law_address" = true)
    (k_la : PySem.W.keepIn K (.ref f_la) = true)
    (a_le : PySem.W.nsIn K mainGlobals "_law_entries" = some (some (.ref f_le)))
    (l_le : K.lookup f_le = some ⟨oc_le, od_le, .func (PySem.W.fnOf "_law_entries" "_law_entries" (defArgs s_law_entries) (defBody s_law_entries) (defScope s_law_entries) .none kV_le dc_le pm_le an_le cd_le ct_le), sl_le⟩)
    (cc_le : PySem.W.codeIn K cd_le "_law_entries" = true)
    (k_le : PySem.W.keepIn K (.ref f_le) = true)
    (a_li : PySem.W.nsIn K mainGlobals "_law_is_address" = some (some (.ref f_li)))
    (l_li : K.lookup f_li = some ⟨oc_li, od_li, .func (PySem.W.fnOf "_law_is_address" "_law_is_address" (defArgs s_law_is_address) (defBody s_law_is_address) (defScope s_law_is_address) .none kV_li dc_li pm_li an_li cd_li ct_li), sl_li⟩)
    (cc_li : PySem.W.codeIn K cd_li "_law_is_address" = true)
    (k_li : PySem.W.keepIn K (.ref f_li) = true)
    (a_lp : PySem.W.nsIn K mainGlobals "_law_is_platform" = some (some (.ref f_lp)))
    (l_lp : K.lookup f_lp = some ⟨oc_lp, od_lp, .func (PySem.W.fnOf "_law_is_platform" "_law_is_platform" (defArgs s_law_is_platform) (defBody s_law_is_platform) (defScope s_law_is_platform) .none kV_lp dc_lp pm_lp an_lp cd_lp ct_lp), sl_lp⟩)
    (cc_lp : PySem.W.codeIn K cd_lp "_law_is_platform" = true)
    (k_lp : PySem.W.keepIn K (.ref f_lp) = true)
    (a_lf : PySem.W.nsIn K mainGlobals "_law_fault" = some (some (.ref f_lf)))
    (l_lf : K.lookup f_lf = some ⟨oc_lf, od_lf, .func (PySem.W.fnOf "_law_fault" "_law_fault" (defArgs s_law_fault) (defBody s_law_fault) (defScope s_law_fault) .none kV_lf dc_lf pm_lf an_lf cd_lf ct_lf), sl_lf⟩)
    (cc_lf : PySem.W.codeIn K cd_lf "_law_fault" = true)
    (k_lf : PySem.W.keepIn K (.ref f_lf) = true)
    (a_lo : PySem.W.nsIn K mainGlobals "_law_told" = some (some (.ref f_lo)))
    (l_lo : K.lookup f_lo = some ⟨oc_lo, od_lo, .func (PySem.W.fnOf "_law_told" "_law_told" (defArgs s_law_told) (defBody s_law_told) (defScope s_law_told) .none kV_lo dc_lo pm_lo an_lo cd_lo ct_lo), sl_lo⟩)
    (cc_lo : PySem.W.codeIn K cd_lo "_law_told" = true)
    (k_lo : PySem.W.keepIn K (.ref f_lo) = true)
    (a_lc : PySem.W.nsIn K mainGlobals "_law_changed" = some (some (.ref f_lc)))
    (l_lc : K.lookup f_lc = some ⟨oc_lc, od_lc, .func (PySem.W.fnOf "_law_changed" "_law_changed" (defArgs s_law_changed) (defBody s_law_changed) (defScope s_law_changed) .none kV_lc dc_lc pm_lc an_lc cd_lc ct_lc), sl_lc⟩)
    (cc_lc : PySem.W.codeIn K cd_lc "_law_changed" = true)
    (k_lc : PySem.W.keepIn K (.ref f_lc) = true)
    (a_lw : PySem.W.nsIn K mainGlobals "law" = some (some (.ref f_lw)))
    (l_lw : K.lookup f_lw = some ⟨oc_lw, od_lw, .func (PySem.W.fnOf "law" "law" (defArgs s_law) (defBody s_law) (defScope s_law) .none kV_lw dc_lw pm_lw an_lw cd_lw ct_lw), sl_lw⟩)
    (cc_lw : PySem.W.codeIn K cd_lw "law" = true)
    (k_lw : PySem.W.keepIn K (.ref f_lw) = true)
    (z0 : PySem.W.nsIn K mainGlobals "len" = some none)
    (z1 : PySem.W.nsIn K mainGlobals "int" = some none)
    (z2 : PySem.W.nsIn K mainGlobals "abs" = some none)
    (z3 : PySem.W.nsIn K mainGlobals "all" = some none)
    (z4 : PySem.W.nsIn K mainGlobals "range" = some none)
    (z5 : PySem.W.nsIn K mainGlobals "isinstance" = some none)
    (z6 : PySem.W.nsIn K mainGlobals "str" = some none)
    (z7 : PySem.W.nsIn K mainGlobals "bool" = some none)
    (z8 : PySem.W.nsIn K mainGlobals "list" = some none)
    (z9 : PySem.W.nsIn K mainGlobals "enumerate" = some none)
    (z10 : PySem.W.nsIn K mainGlobals "super" = some none)
    (z11 : PySem.W.nsIn K mainGlobals "ValueError" = some none)
    (v0 : PySem.W.nsIn K mainGlobals "_DIGITS" = some (some (.str "0123456789abcdef" t0)))
    (v1 : PySem.W.nsIn K mainGlobals "_LENGTH" = some (some (.int 16 t1)))
    (v2 : PySem.W.nsIn K mainGlobals "_IMAGE" = some (some (.str "image" t2)))
    (v3 : PySem.W.nsIn K mainGlobals "_BUNDLE" = some (some (.str "bundle" t3)))
    (v4 : PySem.W.nsIn K mainGlobals "_MOST_LINES" = some (some (.int 50 t4)))
    (v5 : PySem.W.nsIn K mainGlobals "_LETTERS" = some (some (.str "abcdefghijklmnopqrstuvwxyz" t5)))
    (v6 : PySem.W.nsIn K mainGlobals "_LONGEST_PLATFORM" = some (some (.int 10 t6)))
    (gM : PySem.W.nsIn K mainGlobals "Malformed" = some (some (.ref cM)))
    (gR : PySem.W.nsIn K mainGlobals "Refused" = some (some (.ref cR)))
    (gU : PySem.W.nsIn K mainGlobals "Misused" = some (some (.ref cU)))
    (xM : K.lookup cM = some (excClassObj nm q cM N bs [.ref cR, .type "ValueError", .type "Exception", .type "BaseException", .type "object"] true sn sub ab col dd m0 m1 m2 m3 m5 "ValueError.__new__"))
    (sa : PySem.W.findIn K (.ref cM) "__setattr__" = some (some (.builtin "object.__setattr__")))
    (ga : PySem.W.findIn K (.ref cM) "__getattribute__" = some (some (.builtin "BaseException.__getattribute__")))
    (gg : PySem.W.findIn K (.ref cM) "__getattr__" = some none)
    (nL : PySem.W.findIn K (.ref cM) "line" = some none)
    (gc : PySem.W.findIn K (.ref cM) "__class__" = some (some (.builtin "object.__class__")))
    (a1 : PySem.W.findIn K (.ref cM) "__init__" = some (some (.ref f1)))
    (t1f : PySem.W.typeIn K (.ref f1) = some (.type "function"))
    (l1 : K.lookup f1 = some ⟨oc1, od1, .func (PySem.W.ksFn "__init__" "Malformed.__init__" (defArgs s_init) (defBody s_init) (defScope s_init) .none kV1 dc1 pm1 an1 (.ref cda) ct1 cc), sl1⟩)
    (c1 : PySem.W.codeIn K (.ref cda) "Malformed.__init__" = true)
    (xc : K.lookup cc = some ⟨ccl, ccd, .cell (some (.ref cM)), ccs⟩)
    (xd : K.lookup cda = some ⟨dcl, dcd, .fields vs, dcs⟩)
    (xe : vs[2]? = some (.str file tf))
    (xf : ((l.prog.main.file : Str) == file) = true)
    (tp : (l.prog.main.scope.names.lookup ("super" : Str)).isSome = false)
    (op : PySem.W.nsIn K cStatics "thirdparty.any" = some none)
    (ow : PySem.W.mroIn K cM (.ref cM) = some true)
    (su : PySem.W.ks_superIn K cM cM "__init__" = some (some (.builtin "ValueError.__init__")))
    (sv : PySem.W.subIn K (.ref cM) (.type "ValueError") = some true)
    (kC : PySem.W.keepIn K (.ref cM) = true)
    (eC : PySem.W.subIn K (.ref cM) (.type "BaseException") = some true)
    (tC : PySem.W.typeIn K (.ref cM) = some (.type "type"))
    (hC : PySem.W.hasDictIn K cM = true)
    (sC : PySem.W.subIn K (.ref cM) (.ref cM) = some true)
    (sp1 : PySem.W.specialIn K (.builtin "object.__class__") "__get__" = some (some (.builtin "getset_descriptor.__get__")))
    (tk1 : PySem.W.takesIn K (.builtin "object.__class__") = some true)
    (mo : PySem.W.mroIn K cM (.type "object") = some true)
    (q1 : PySem.W.kitOne K (.ref cM) (.ref cR) = some true)
    (q2 : PySem.W.kitOne K (.ref cM) (.type "ValueError") = some true)
    (q3 : PySem.W.kitOne K (.ref cM) (.ref cU) = some false) :
    LamX.LawAtS l w K CX0 6 63 "script" mg fa h := by
  have e := hfa.symm.trans (PySem.W.mg_of X G a_lw)
  cases e
  have T : Tx K mg cM cR cU := ⟨PySem.W.mg_none_of X G z0, PySem.W.mg_none_of X G z1, PySem.W.mg_none_of X G z2, PySem.W.mg_none_of X G z3, PySem.W.mg_none_of X G z4, PySem.W.mg_none_of X G z5, PySem.W.mg_none_of X G z6, PySem.W.mg_none_of X G z7, PySem.W.mg_none_of X G z8, PySem.W.mg_none_of X G z9, PySem.W.mg_none_of X G z10, PySem.W.mg_none_of X G z11, PySem.W.mg_of X G gM, PySem.W.mg_of X G gR, PySem.W.mg_of X G gU, ⟨_, PySem.W.mg_of X G v0⟩, ⟨_, PySem.W.mg_of X G v1⟩, ⟨_, PySem.W.mg_of X G v2⟩, ⟨_, PySem.W.mg_of X G v3⟩, ⟨_, PySem.W.mg_of X G v4⟩, ⟨_, PySem.W.mg_of X G v5⟩, ⟨_, PySem.W.mg_of X G v6⟩⟩
  have O : OexC K cM := ⟨⟨_, _, _, _, _, _, _, _, _, _, _, _, _, _, _, xM, by rfl⟩, sa, eC, tC, kC⟩
  have S : SupAt l.prog K cM cc cda := ⟨O, ⟨_, _, _, xc⟩, ⟨_, _, _, _, _, _, xd, xe, xf⟩, tp, op, ow, su, sv⟩
  have IA : InitAt l.prog K cM f1 cc cda _ := ⟨S, ⟨_, _, _, _, _, _, _, _, rfl, l1, c1⟩, nL⟩
  have bI : Binds K (PySem.W.ksFn "__init__" "Malformed.__init__" (defArgs s_init) (defBody s_init) (defScope s_init) .none kV1 dc1 pm1 an1 (.ref cda) ct1 cc) P_init [] := .all fun us hl => match us, hl with | [_, _], _ => rfl
  have M : MalAt l.prog K mg cM f1 cc cda _ := ⟨IA, a1, t1f, bI⟩
  have EC : ExcC K cM := ⟨ga, gg, eC, hC, gc, sp1, tk1, mo⟩
  have MI : MalIs K cM cR cU := ⟨EC, ⟨ga, gg, eC, hC⟩, nL, PySem.W.exm_ref eC hC tC sC, q1, q2, q3⟩
  have DI : DefC K mg "is_address" s_is_address P_is_address f_ia _ c_ia := ⟨⟨⟨_, _, _, _, _, _, _, _, rfl, l_ia, cc_ia⟩, k_ia⟩, PySem.W.mg_of X G a_ia, ((fun_mk (st := s_is_address) l_ia cc_ia k_ia).binds fun _ _ _ _ _ _ us hl => match us, hl with | [_], _ => rfl)⟩
  have DL : DefC K mg "_is_platform" s_is_platform P_is_platform f_ip _ c_ip := ⟨⟨⟨_, _, _, _, _, _, _, _, rfl, l_ip, cc_ip⟩, k_ip⟩, PySem.W.mg_of X G a_ip, ((fun_mk (st := s_is_platform) l_ip cc_ip k_ip).binds fun _ _ _ _ _ _ us hl => match us, hl with | [_], _ => rfl)⟩
  have DB : DefAt K mg "_lines_behind" s_lines_behind P_lines_behind f_lb _ := (⟨(fun_mk (st := s_lines_behind) l_lb cc_lb k_lb), PySem.W.mg_of X G a_lb, ((fun_mk (st := s_lines_behind) l_lb cc_lb k_lb).binds fun _ _ _ _ _ _ us hl => match us, hl with | [_, _], _ => rfl)⟩ : DefAt K mg _ _ _ _ _)
  have DT : DefAt K mg "_text_of" s_text_of P_text_of f_to _ := (⟨(fun_mk (st := s_text_of) l_to cc_to k_to), PySem.W.mg_of X G a_to, ((fun_mk (st := s_text_of) l_to cc_to k_to).binds fun _ _ _ _ _ _ us hl => match us, hl with | [_, _], _ => rfl)⟩ : DefAt K mg _ _ _ _ _)
  have DK : DefAt K mg "_law_take" s_law_take P_law_take f_lt _ := (⟨(fun_mk (st := s_law_take) l_lt cc_lt k_lt), PySem.W.mg_of X G a_lt, ((fun_mk (st := s_law_take) l_lt cc_lt k_lt).binds fun _ _ _ _ _ _ us hl => match us, hl with | [_, _], _ => rfl)⟩ : DefAt K mg _ _ _ _ _)
  have DA : DefAt K mg "_law_address" s_law_address P_law_address f_la _ := (⟨(fun_mk (st := s_law_address) l_la cc_la k_la), PySem.W.mg_of X G a_la, ((fun_mk (st := s_law_address) l_la cc_la k_la).binds fun _ _ _ _ _ _ us hl => match us, hl with | [_], _ => rfl)⟩ : DefAt K mg _ _ _ _ _)
  have DIa : DefAt K mg "_law_is_address" s_law_is_address P_law_is_address f_li _ := (⟨(fun_mk (st := s_law_is_address) l_li cc_li k_li), PySem.W.mg_of X G a_li, ((fun_mk (st := s_law_is_address) l_li cc_li k_li).binds fun _ _ _ _ _ _ us hl => match us, hl with | [_], _ => rfl)⟩ : DefAt K mg _ _ _ _ _)
  have DIp : DefAt K mg "_law_is_platform" s_law_is_platform P_law_is_platform f_lp _ := (⟨(fun_mk (st := s_law_is_platform) l_lp cc_lp k_lp), PySem.W.mg_of X G a_lp, ((fun_mk (st := s_law_is_platform) l_lp cc_lp k_lp).binds fun _ _ _ _ _ _ us hl => match us, hl with | [_], _ => rfl)⟩ : DefAt K mg _ _ _ _ _)
  refine ⟨PySem.W.fnOf "law" "law" (defArgs s_law) (defBody s_law) (defScope s_law) .none kV_lw dc_lw pm_lw an_lw cd_lw ct_lw, [(c_ia, B1), (c_ip, B2)], spLaw K B1 B2, ?_, ?_, ?_, ?_, ?_, ?_⟩
  · intro p hp
    rcases List.mem_cons.mp hp with e | hp
    · rw [e]; exact tb1.2
    · rw [List.mem_singleton.mp hp]; exact tb2.2
  · intro p hp
    rcases List.mem_cons.mp hp with e | hp
    · rw [e]; exact nB1
    · rw [List.mem_singleton.mp hp]; exact nB2
  · intro p hp
    rcases List.mem_cons.mp hp with e | hp
    · rw [e]; exact tb1.1
    · rw [List.mem_singleton.mp hp]; exact tb2.1
  · exact fun s v => .of_eq rfl
  · intro H a ns hl _ hH hS
    exact ⟨a, ns, rfl, hS, hl, ⟨#[], hH _ List.mem_cons_self, True.intro⟩, ⟨#[], hH _ (List.mem_cons_of_mem _ (List.mem_singleton.mpr rfl)), True.intro⟩, fun _ => rfl⟩
  · intro base _ _ hT
    have TI : TabB base mg c_ia B1 := (let t := hT _ List.mem_cons_self; ⟨t.code, t.bm, t.gP⟩)
    have TL : TabB base mg c_ip B2 := (let t := hT _ (List.mem_cons_of_mem _ (List.mem_singleton.mpr rfl)); ⟨t.code, t.bm, t.gP⟩)
    have MO : Mods l.prog w K mg base cM B1 B2 f_ri f_rb _ _ := ⟨ok_read_image (fun_mk (st := s_read_image) l_ri cc_ri k_ri) T M DB DI TI, PySem.W.mg_of X G a_ri, k_ri, ((fun_mk (st := s_read_image) l_ri cc_ri k_ri).binds fun _ _ _ _ _ _ us hl => match us, hl with | [_], _ => rfl), ok_read_bundle (fun_mk (st := s_read_bundle) l_rb cc_rb k_rb) T M DB DI TI DL TL, PySem.W.mg_of X G a_rb, k_rb, ((fun_mk (st := s_read_bundle) l_rb cc_rb k_rb).binds fun _ _ _ _ _ _ us hl => match us, hl with | [_], _ => rfl)⟩
    have LC : Lawc l.prog w K mg base cM cR cU B1 B2 f_ls f_lt f_la f_le f_it f_bt f_lf f_lo f_lc f_rf _ _ _ _ _ _ _ _ _ _ := ⟨ok_state (fun_mk (st := s_law_state) l_ls cc_ls k_ls) T, PySem.W.mg_of X G a_ls, k_ls, ((fun_mk (st := s_law_state) l_ls cc_ls k_ls).binds fun _ _ _ _ _ _ us hl => match us, hl with | [_], _ => rfl),
      ok_take DK.fn T.len T.int, PySem.W.mg_of X G a_lt, k_lt, ((fun_mk (st := s_law_take) l_lt cc_lt k_lt).binds fun _ _ _ _ _ _ us hl => match us, hl with | [_, _], _ => rfl),
      ok_address DA.fn T DK, PySem.W.mg_of X G a_la, k_la, ((fun_mk (st := s_law_address) l_la cc_la k_la).binds fun _ _ _ _ _ _ us hl => match us, hl with | [_], _ => rfl),
      ok_entries (fun_mk (st := s_law_entries) l_le cc_le k_le) T DK DA, PySem.W.mg_of X G a_le, k_le, ((fun_mk (st := s_law_entries) l_le cc_le k_le).binds fun _ _ _ _ _ _ us hl => match us, hl with | [_], _ => rfl),
      ok_image_text (fun_mk (st := s_image_text) l_it cc_it k_it) T DT, PySem.W.mg_of X G a_it, k_it, ((fun_mk (st := s_image_text) l_it cc_it k_it).binds fun _ _ _ _ _ _ us hl => match us, hl with | [_], _ => rfl),
      ok_bundle_text (fun_mk (st := s_bundle_text) l_bt cc_bt k_bt) T DT, PySem.W.mg_of X G a_bt, k_bt, ((fun_mk (st := s_bundle_text) l_bt cc_bt k_bt).binds fun _ _ _ _ _ _ us hl => match us, hl with | [_], _ => rfl),
      ok_law_fault (fun_mk (st := s_law_fault) l_lf cc_lf k_lf) T DIa DIp, PySem.W.mg_of X G a_lf, k_lf, ((fun_mk (st := s_law_fault) l_lf cc_lf k_lf).binds fun _ _ _ _ _ _ us hl => match us, hl with | [_, _], _ => rfl),
      ok_law_told (fun_mk (st := s_law_told) l_lo cc_lo k_lo) T MO MI, PySem.W.mg_of X G a_lo, k_lo, ((fun_mk (st := s_law_told) l_lo cc_lo k_lo).binds fun _ _ _ _ _ _ us hl => match us, hl with | [_, _], _ => rfl),
      ok_law_changed (fun_mk (st := s_law_changed) l_lc cc_lc k_lc) T DK, PySem.W.mg_of X G a_lc, k_lc, ((fun_mk (st := s_law_changed) l_lc cc_lc k_lc).binds fun _ _ _ _ _ _ us hl => match us, hl with | [_, _], _ => rfl),
      ok_references (fun_mk (st := s_references) l_rf cc_rf k_rf) T MO, PySem.W.mg_of X G a_rf, k_rf, ((fun_mk (st := s_references) l_rf cc_rf k_rf).binds fun _ _ _ _ _ _ us hl => match us, hl with | [_, _], _ => rfl)⟩
    exact ok_law (fun_mk (st := s_law) l_lw cc_lw k_lw) T LC
end LW
open PySem PySem.W PyProof.Rows
set_option maxHeartbeats 0 in
theorem PySem.Challenge.cw_layerwharf_k02_texts_of_images_holds : PySem.Challenge.rw_layerwharf_k02_texts_of_images.Holds := by
  w_on; o_law; k_head; (case hw => w_witness2)
  k_fill
  refine LW.walk_gnd (l := PySem.Challenge.rw_layerwharf_k02_texts_of_images) (n := 63) (k := 6) (x := "script") (CX := fun _ => L2.CX0) rfl (by decide) rfl ⟨rfl, by decide, by decide⟩ (fun w h Y => PySem.W.kIn_of Y) ?F (fun _ _ _ _ _ h => h)
  case F =>
    intro w s0 mg mb fa h G Y KX hmg
    refine' LW.all_mk KX G.T.g hmg ?tb1 ?nB1 ?tb2 ?nB2 ?a_ia ?l_ia ?cc_ia ?k_ia ?a_ip ?l_ip ?cc_ip ?k_ip ?a_it ?l_it ?cc_it ?k_it ?a_bt ?l_bt ?cc_bt ?k_bt ?a_ri ?l_ri ?cc_ri ?k_ri ?a_rb ?l_rb ?cc_rb ?k_rb ?a_rf ?l_rf ?cc_rf ?k_rf ?a_to ?l_to ?cc_to ?k_to ?a_lb ?l_lb ?cc_lb ?k_lb ?a_ls ?l_ls ?cc_ls ?k_ls ?a_lt ?l_lt ?cc_lt ?k_lt ?a_la ?l_la ?cc_la ?k_la ?a_le ?l_le ?cc_le ?k_le ?a_li ?l_li ?cc_li ?k_li ?a_lp ?l_lp ?cc_lp ?k_lp ?a_lf ?l_lf ?cc_lf ?k_lf ?a_lo ?l_lo ?cc_lo ?k_lo ?a_lc ?l_lc ?cc_lc ?k_lc ?a_lw ?l_lw ?cc_lw ?k_lw ?z0 ?z1 ?z2 ?z3 ?z4 ?z5 ?z6 ?z7 ?z8 ?z9 ?z10 ?z11 ?v0 ?v1 ?v2 ?v3 ?v4 ?v5 ?v6 ?gM ?gR ?gU ?xM ?sa ?ga ?gg ?nL ?gc ?a1 ?t1f ?l1 ?c1 ?xc ?xd ?xe ?xf ?tp ?op ?ow ?su ?sv ?kC ?eC ?tC ?hC ?sC ?sp1 ?tk1 ?mo ?q1 ?q2 ?q3
    (case a_ia => k_is)
    (case l_ia => k_is)
    (case cc_ia => k_is)
    (case k_ia => k_is)
    (case a_ip => k_is)
    (case l_ip => k_is)
    (case cc_ip => k_is)
    (case k_ip => k_is)
    (case a_it => k_is)
    (case l_it => k_is)
    (case cc_it => k_is)
    (case k_it => k_is)
    (case a_bt => k_is)
    (case l_bt => k_is)
    (case cc_bt => k_is)
    (case k_bt => k_is)
    (case a_ri => k_is)
    (case l_ri => k_is)
    (case cc_ri => k_is)
    (case k_ri => k_is)
    (case a_rb => k_is)
    (case l_rb => k_is)
    (case cc_rb => k_is)
    (case k_rb => k_is)
    (case a_rf => k_is)
    (case l_rf => k_is)
    (case cc_rf => k_is)
    (case k_rf => k_is)
    (case a_to => k_is)
    (case l_to => k_is)
    (case cc_to => k_is)
    (case k_to => k_is)
    (case a_lb => k_is)
    (case l_lb => k_is)
    (case cc_lb => k_is)
    (case k_lb => k_is)
    (case a_ls => k_is)
    (case l_ls => k_is)
    (case cc_ls => k_is)
    (case k_ls => k_is)
    (case a_lt => k_is)
    (case l_lt => k_is)
    (case cc_lt => k_is)
    (case k_lt => k_is)
    (case a_la => k_is)
    (case l_la => k_is)
    (case cc_la => k_is)
    (case k_la => k_is)
    (case a_le => k_is)
    (case l_le => k_is)
    (case cc_le => k_is)
    (case k_le => k_is)
    (case a_li => k_is)
    (case l_li => k_is)
    (case cc_li => k_is)
    (case k_li => k_is)
    (case a_lp => k_is)
    (case l_lp => k_is)
    (case cc_lp => k_is)
    (case k_lp => k_is)
    (case a_lf => k_is)
    (case l_lf => k_is)
    (case cc_lf => k_is)
    (case k_lf => k_is)
    (case a_lo => k_is)
    (case l_lo => k_is)
    (case cc_lo => k_is)
    (case k_lo => k_is)
    (case a_lc => k_is)
    (case l_lc => k_is)
    (case cc_lc => k_is)
    (case k_lc => k_is)
    (case a_lw => k_is)
    (case l_lw => k_is)
    (case cc_lw => k_is)
    (case k_lw => k_is)
    (case z0 => first | k_is | rfl)
    (case z1 => first | k_is | rfl)
    (case z2 => first | k_is | rfl)
    (case z3 => first | k_is | rfl)
    (case z4 => first | k_is | rfl)
    (case z5 => first | k_is | rfl)
    (case z6 => first | k_is | rfl)
    (case z7 => first | k_is | rfl)
    (case z8 => first | k_is | rfl)
    (case z9 => first | k_is | rfl)
    (case z10 => first | k_is | rfl)
    (case z11 => first | k_is | rfl)
    (case v0 => first | k_is | rfl)
    (case v1 => first | k_is | rfl)
    (case v2 => first | k_is | rfl)
    (case v3 => first | k_is | rfl)
    (case v4 => first | k_is | rfl)
    (case v5 => first | k_is | rfl)
    (case v6 => first | k_is | rfl)
    (case gM => first | k_is | rfl)
    (case gR => first | k_is | rfl)
    (case gU => first | k_is | rfl)
    (case xM => first | k_is | rfl)
    (case sa => first | k_is | rfl)
    (case ga => first | k_is | rfl)
    (case gg => first | k_is | rfl)
    (case nL => first | k_is | rfl)
    (case gc => first | k_is | rfl)
    (case a1 => first | k_is | rfl)
    (case t1f => first | k_is | rfl)
    (case l1 => first | k_is | rfl)
    (case c1 => first | k_is | rfl)
    (case xc => first | k_is | rfl)
    (case xd => first | k_is | rfl)
    (case xe => first | k_is | rfl)
    (case xf => first | k_is | rfl)
    (case tp => first | k_is | rfl)
    (case op => first | k_is | rfl)
    (case ow => first | k_is | rfl)
    (case su => first | k_is | rfl)
    (case sv => first | k_is | rfl)
    (case kC => first | k_is | rfl)
    (case eC => first | k_is | rfl)
    (case tC => first | k_is | rfl)
    (case hC => first | k_is | rfl)
    (case sC => first | k_is | rfl)
    (case sp1 => first | k_is | rfl)
    (case tk1 => first | k_is | rfl)
    (case mo => first | k_is | rfl)
    (case q1 => first | k_is | rfl)
    (case q2 => first | k_is | rfl)
    (case q3 => first | k_is | rfl)
    case tb1 => exact tab_of (x := "is_address") G.T KX rfl (by rfl)
    case tb2 => exact tab_of (x := "_is_platform") G.T KX rfl (by rfl)
    case nB1 => rfl
    case nB2 => rfl
