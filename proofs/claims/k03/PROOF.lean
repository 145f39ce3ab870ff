import PyProof.Rows.All
import Wide.All
import OpenK.AllK
import Wide.FinOn
import HandS.ForMost
import HandS.AnyAll
import HandS.FStr
import HandS.Walk
import HandS.EndTab
import HandS.EndOwn
import HandS.Codes
import HandS.Strs
import HandS.IsInst
import HandS.Style
import HandS.Replace
import KE.KExcSuper
import KE.KSuper
import HandS.ExcInit
import KE.GoesEnumKw
import KE.GoesMore
import HandS.ExcIs
import HandS.ExcField
import HandS.ExcOwn
import HandS.TryOnly
import HandS.Star
import HandS.ListItems
import HandS.ForDict
import HandS.Deep
import HandS.DeepEq
import KE.KExcIs
import HandS.Text
import HandS.SetKeys
import HandS.SetBool
import PyProof.Rows.SortShellAny
import HandS.SetFor
import HandS.More
import HandS.GenList
import HandS.WordsExc
import HandS.Steps
import HandS.Small
import PySem.Challenge.RW_layerwharf_k03_whole_blobs
set_option Elab.async false
set_option linter.all false
set_option maxRecDepth 100000
set_option maxHeartbeats 4000000
namespace LW
open PySem PySem.Spec PyProof.Rows L2 GxR
/-- a test of one sign that may read names of the module -/
def EltG (P : Program) (w : World) (mg : Str → Option Value) (sc : Scope) (x : Str) (e : Expr) (pb : Nat → Bool) : Prop :=
  ∀ (env : Env) (A : Around) (E : Value → Shared → Prop) (c : Nat) (t : Tok) (s : Shared) (m : Str → Option Value),
    env.scope = sc → env.globals = mainGlobals → s.heap.Ns mainGlobals mg → s.heap.Ns env.locals m → m x = some (.str ⟨#[c]⟩ t) →
    wpAny (model P w) A (eval e env) (fun y s' => y = .bool (pb c) ∧ Keeps s s') E s
theorem elt_inG {P : Program} {w : World} {mg : Str → Option Value} {sc : Scope} {x g z : Str} {tz : Tok} {p1 p2 p3 : Pos}
    (hk : sc.kind = .function) (hl : sc.names.lookup x = some .local) (hg : sc.names.lookup g = some .globalImplicit) (hm : mg g = some (.str z tz))
    (d1 : (x == ("__debug__" : Str)) = false := by decide) (d2 : (g == ("__debug__" : Str)) = false := by decide) :
    EltG P w mg sc x (.Compare (.Name x p1) [.In] [.Name g p2] p3) (fun c => decide (c ∈ z.cps.toList)) := by
  intro env A E c t s m e1 e2 n1 n2 hx
  subst e1
  refine wpAny_Compare1 (wpAny_Name (wpAny_loadName_local hk hl n2 hx ?_) d1)
  refine Calls.Name_function_global hk hg (Calls.loadGlobal_global (by rw [e2]; exact n1) hm ?_) d2
  refine PyProof.Rows.in_str ⟨?_, keeps_refl s⟩
  rw [PySem.StrLaws.found_one z c]
theorem ns_at {h h' : Heap} {a : Addr} {m : Str → Option Value} (n : h.Ns a m) (k : ∀ o, h.get? a = some o → h'.get? a = some o) : h'.Ns a m := by
  obtain ⟨o, es, ep, e, r⟩ := n
  exact ⟨o, es, ep, k o e, r⟩
end LW
namespace LW
open PySem PySem.Spec PyProof.Rows L2 GxR
section
variable {X : Cx} {pins : List (Addr × Obj)} {σ : L2.St} {H : Hp} {s : Shared}
/-- (test for x in text), the test reading the module's names: made, and ready to be walked -/
theorem gen_textG {c T : Addr} {e it : Expr} {x : Str} {px gp : Pos} {sc : Scope} {pb : Nat → Bool} {te : TE} {k : Nat} {Q' : Value → Shared → Prop} {R : Str → Hp → Prop}
    (hr : Room k X.A) (B : TabB X.base X.mg c T) (hc : X.env.code = .ref c) (S : GenS X.env sc x) (hi : PE X it te)
    (he : EltG X.prog X.w X.mg sc x e pb) (hs : ∀ v, genFold it X.env v = pure v) (I : Inv X pins σ H s)
    (h : te σ H fun v H1 => ∃ a : Str, v = .str a ∧ TabG H1 T ∧ R a H1)
    (q : ∀ a H1 g s5, R a H1 → Ready X pins σ H1 T a pb g s5 → Q' (.ref g) s5) :
    wpAny (model X.prog X.w) X.A (eval (.GeneratorExp e [⟨.Name x px, it, [], 0⟩] sc gp) X.env) Q' X.xe s := by
  have room : X.A.depth < recursionLimit := hr.depth
  refine wpAny_GeneratorExp_walksQ hr.hd S.co (closure_ok S.free) S.cell S.dot S.loc S.kind room ?_ hs
  refine thn (hi.run pins s σ H _ I h) ?_
  rintro xv s1 ⟨v, H1, I1, r1, a, ev, ⟨ps, hT, tr⟩, ra⟩
  subst ev
  obtain ⟨t, et⟩ := r1
  subst et
  refine wpAny_pyIter_str ?_
  intro o St W st0
  have oT : s1.heap.get? T = some { cls := .none, data := .fields ps } := I1.hok T _ hT
  have ltT := Heap.lt_size oT
  have oT2 : (s1.heap.push o).get? T = some { cls := .none, data := .fields ps } := Heap.get?_push_of_some _ oT
  have lim : (s1.heap.push o).NoLimit := I1.nolimit.push o
  have cd : PySem.W.CodeHd (s1.heap.push o) c T := B.code.keeps fun b u hb => Heap.get?_push_of_some _ (I1.bk b u hb)
  have psz : (s1.heap.push o).objs.size = s1.heap.objs.size + 1 := Heap.size_push ..
  have goG : ∃ og, s1.heap.get? mainGlobals = some og ∧ mainGlobals ≠ T := by
    obtain ⟨og, _, _, eg, _⟩ := I1.mod.glob
    exact ⟨og, I1.bk _ _ eg, B.gP⟩
  obtain ⟨og, gg, gT⟩ := goG
  have nsG : s1.heap.Ns mainGlobals X.mg := I1.mod.glob.keeps I1.bk
  -- what is left once the code of the generator is there
  have rest : ∀ (cv : Value) (h3 : Heap) (tk : Nat) (ps' more : Array Value), Heap.ExtBut T (s1.heap.push o) h3 → (s1.heap.push o).objs.size ≤ h3.objs.size →
      h3.get? T = some { cls := .none, data := .fields ps' } → ps' = ps ++ more → TriplesOk ps'.toList →
      wpAny (model X.prog X.w) X.A (builtinsFor X.env.globals X.env.builtins) (fun bi s4 =>
        ∃ Ia fp wr n0 Pf St0 pz F, Value.ref s1.heap.objs.size = .ref Ia ∧ (∀ A' : Around, A'.handled = none → Walks X.prog X.w A' Ia fp wr n0 Pf St0) ∧ St0 0 s4.heap ∧
          (∀ b ∈ fp, b < s4.heap.objs.size) ∧ s4.heap.NoLimit ∧ cStatics ∉ wr ∧
          (∀ hf : Heap, (∀ b u, s4.heap.get? b = some u → hf.get? b = some u) →
            QuietGen X.prog X.w (genEnv sc (cloFrom X.env.cells sc.names []) s4.heap.objs.size cv bi X.env) x [] e (List.range s4.heap.objs.size) wr Pf pz F hf) ∧
          (∀ g h5 tk' gs, gs.bare = true → s4.heap.objs.size < g → h5.objs.size = g + 1 → (∀ b u, s4.heap.get? b = some u → h5.get? b = some u) →
            WalksS X.prog X.w X.A.in4 g (g :: s4.heap.objs.size :: List.range s4.heap.objs.size) (s4.heap.objs.size :: wr) (GenOnlyQ s4.gens.size) (passing pz n0 0).length
              (fun j y => ∃ i, (passing pz n0 0)[j]? = some i ∧ F i y) (GenAt X.prog X.w X.A.in4 g s4.gens.size s4.heap.objs.size (List.range s4.heap.objs.size) wr pz n0 F) →
            GenAt X.prog X.w X.A.in4 g s4.gens.size s4.heap.objs.size (List.range s4.heap.objs.size) wr pz n0 F 0 { s4 with gens := s4.gens.push gs, toks := tk', heap := h5 } →
            Q' (.ref g) { s4 with gens := s4.gens.push gs, toks := tk', heap := h5 })) X.xe { s1 with heap := h3, toks := tk } := by
    intro cv h3 tk ps' more ext hz hT3 emore tr3
    have old : ∀ b u, b ≠ T → s1.heap.get? b = some u → h3.get? b = some u := fun b u n eu => ext b u n (Heap.get?_push_of_some _ eu)
    obtain ⟨bm, ob, m1, m2, m3, m4, m5, m6, m7, m8⟩ := B.bm
    have csT : cStatics ≠ T := by
      intro ee
      obtain ⟨_, ⟨o', es, ep, ho, hd, _⟩, _⟩ := I1.nolimit
      rw [ee, oT] at ho
      cases ho
      cases hd
    have csl : cStatics < s1.heap.objs.size := by
      obtain ⟨_, hn, _⟩ := I1.nolimit
      exact hn.lt
    have g3 : h3.Ns mainGlobals X.mg := ns_at nsG fun u hu => old _ u gT hu
    refine wpAny_builtinsFor (m := X.mg) (by rw [I1.ok.glob]; exact g3) m1 m2 (old _ _ m4 (I1.bk _ _ m5)) m6 m7 m8 ?_
    refine ⟨s1.heap.objs.size, [s1.heap.objs.size], [s1.heap.objs.size], a.cps.size, SignAt a, St, fun _ => true, fun i y => ∃ cc, a.cps[i]? = some cc ∧ y = .bool (pb cc), rfl, W, ?_, ?_, lim.extBut ext csT, ?_, ?_, ?_⟩
    · refine (W X.A hr.hd).frame _ _ _ st0 fun b hb u eu => ext b u ?_ eu
      have eb : b = s1.heap.objs.size := by simpa using hb
      rw [eb]
      exact Nat.ne_of_gt ltT
    · intro b hb
      have eb : b = s1.heap.objs.size := by simpa using hb
      rw [eb]
      show s1.heap.objs.size < h3.objs.size
      omega
    · intro z
      have z' : cStatics = s1.heap.objs.size := by simpa using z
      exact Nat.ne_of_lt csl z'
    · intro hf kf
      refine ⟨?_, ?_⟩
      · intro A' E' i v s₂ m₂ _ _ _ _ _
        simp only [List.forIn_nil]
        exact wpAny_pure ⟨rfl, keeps_refl _⟩
      · intro A' E' i v s₂ m₂ hA pv _ hn hm hk
        obtain ⟨cc, u, hcc, ev⟩ := pv
        subst ev
        have gl : s₂.heap.Ns mainGlobals X.mg := ns_at g3 fun u hu => by
          refine hk mainGlobals (List.mem_range.mpr (Heap.lt_size hu)) ?_ u (kf _ _ hu)
          intro z
          have z' : mainGlobals = s1.heap.objs.size := by simpa using z
          have l := Heap.lt_size gg
          rw [z'] at l
          exact Nat.lt_irrefl _ l
        have res := he (genEnv sc (cloFrom X.env.cells sc.names []) h3.objs.size cv builtinsNs X.env) A' E' cc u s₂ m₂ rfl I1.ok.glob gl hn hm
        exact wpAny_mono res (fun y s3 r => ⟨⟨cc, hcc, r.1⟩, r.2⟩) fun _ _ z => z
    · intro g h5 tk5 gs hgb hag hsz5 hk5 W5 hat
      simp only [GxR.passing_true, List.length_range] at W5
      refine q a H1 g _ ra ⟨_, _, _, _, _, W5.in4_1, hat, ?_, ?_⟩
      · rintro j y sj Qj Ej ⟨i, hij, cc, hcc, ey⟩ hq
        subst ey
        obtain ⟨hj, ej⟩ := List.getElem?_eq_some_iff.mp hij
        rw [List.getElem_range] at ej
        subst ej
        have at_j : a.cps.toList[j]? = some cc := by rw [Array.getElem?_toList]; exact hcc
        rw [trF_some at_j] at hq
        exact wpAny_truthy_bool hq
      · intro s' hm
        have nw : ∀ b u, s1.heap.get? b = some u → b ∉ h3.objs.size :: [s1.heap.objs.size] := by
          intro b u eu hb
          have l := Heap.lt_size eu
          have l3 : (s1.heap.objs.size : Nat) ≤ h3.objs.size := by omega
          rcases List.mem_cons.mp hb with z | z
          · rw [z] at l
            exact absurd (Nat.lt_of_lt_of_le l l3) (Nat.lt_irrefl _)
          · have z' : b = s1.heap.objs.size := by simpa using z
            rw [z'] at l
            exact Nat.lt_irrefl _ l
        have J := inv_tab (more := more) (h' := s'.heap) (g' := s'.gens) (d' := s'.drawn) (t' := s'.toks) I1 hT
          (fun b u n eu => hm.heap b u (nw b u eu) (hk5 b u (old b u n eu)))
          (by rw [← emore]; exact hm.heap T _ (nw T _ oT) (hk5 T _ hT3)) (AllBare.movedS (I1.bare.push hgb) hm)
        rw [sh_eta s1 s' hm.os] at J
        exact ⟨_, ⟨⟨ps ++ more, upd_same, by rw [← emore]; exact tr3⟩, fun b n => upd_ne n⟩, J⟩
  refine ⟨lim, ?_⟩
  cases hf : codeAmong gp ps.toList with
  | some cv =>
    refine wpAny_genexprCode_hit hc (cd.code oT2 tr) hf ?_
    exact rest cv (s1.heap.push o) s1.toks ps #[] (Heap.ExtBut.refl _ _) (Nat.le_refl _) oT2 (by simp) tr
  | none =>
    refine wpAny_genexprCodeX hc (cd.code oT2 tr) (cd.tab oT2) hf ?_
    intro c' h' tk ext ge lt isC _ htab _
    obtain ⟨o1, vs, f1, tf, fl, tg, inF, tx, tt, op, _, _, _, _, _, _, _, _, _, tr3, _⟩ := isC
    exact rest _ h' tk _ _ ext (Nat.le_trans ge (Nat.le_of_lt lt)) htab.2 rfl tr3
/-- all(test for x in e), e a text -/
theorem pe_allG {c T : Addr} {e it : Expr} {x : Str} {px p pos gp : Pos} {sc : Scope} {pb : Nat → Bool} {te : TE} {k : Nat}
    (hr : Room k X.A) (hg : Gl X "all") (hm : X.mg "all" = none) (B : TabB X.base X.mg c T) (hc : X.env.code = .ref c) (S : GenS X.env sc x)
    (hi : PE X it te) (he : EltG X.prog X.w X.mg sc x e pb) (hs : ∀ v, genFold it X.env v = pure v := by intro _; rfl)
    (ha : starEach [.GeneratorExp e [⟨.Name x px, it, [], 0⟩] sc gp] X.env = (false, eval (.GeneratorExp e [⟨.Name x px, it, [], 0⟩] sc gp) X.env) :: starEach [] X.env := by rfl) :
    PE X (.Call (.Name "all" p) [.GeneratorExp e [⟨.Name x px, it, [], 0⟩] sc gp] [] pos) (tAllS T pb te) := by
  constructor
  intro pins s σ H Q I h
  refine wpAny_Call_Name_kw (ld_blt I hg hm (u := .builtin "all") (by decide +kernel) ?_)
  refine PyProof.Rows.callWith_builtin1 ?_ ha (by rfl)
  rw [ha]
  show wpAny _ _ (spliced ((false, eval (.GeneratorExp e [⟨.Name x px, it, [], 0⟩] sc gp) X.env) :: backTo pos (starEach [] X.env))) _ _ s
  refine Calls.spliced_cons (gen_textG (R := fun a H1 => ∀ H2, Tabbed T H1 H2 → Q (.bl (a.cps.toList.all pb)) H2) hr B hc S hi he hs I h ?_)
  rintro a H1 g s5 hR ⟨fp, wr, G, F, St, W, hst, htr, hI⟩
  refine Calls.spliced_nil (call_all_walkS (W.self 0 _ _ _ hst ⟨g, fp, wr, G, _, F, St, _, rfl, W, hst, htr, ?_⟩))
  intro s' hmv
  obtain ⟨H2, hT, J⟩ := hI s' hmv
  refine ⟨.bl _, H2, J, rfl, ?_⟩
  rw [all_signs a pb]
  exact hR H2 hT
end
end LW
namespace LW
open PySem
/-! ### sixteen hexadecimal digits -/
def dig (d : Nat) : Nat := if d < 10 then 48 + d else 87 + d
/-- k digits of n -/
def hx : Nat → Nat → List Nat
  | 0, _ => []
  | k + 1, n => hx k (n / 16) ++ [dig (n % 16)]
theorem hx_len : ∀ k n, (hx k n).length = k
  | 0, _ => rfl
  | k + 1, n => by simp [hx, hx_len k]
theorem hx_zero : ∀ k, hx k 0 = List.replicate k 48
  | 0 => rfl
  | k + 1 => by
    show hx k (0 / 16) ++ [dig (0 % 16)] = _
    rw [Nat.zero_div, hx_zero k, List.replicate_succ']
    rfl
theorem core_acc : ∀ (f n : Nat) (ds : List Char), Nat.toDigitsCore 16 f n ds = Nat.toDigitsCore 16 f n [] ++ ds
  | 0, n, ds => rfl
  | f + 1, n, ds => by
    unfold Nat.toDigitsCore
    by_cases h : n / 16 = 0
    · simp [h]
    · simp only [h, if_false]
      rw [core_acc f (n / 16) (Nat.digitChar (n % 16) :: ds), core_acc f (n / 16) [Nat.digitChar (n % 16)]]
      simp
theorem dig_char {d : Nat} (h : d < 16) : (Nat.digitChar d).toNat = dig d := by
  have : ∀ d : Fin 16, (Nat.digitChar d.val).toNat = dig d.val := by decide +kernel
  exact this ⟨d, h⟩
theorem core_hx : ∀ (k f n : Nat), 1 ≤ k → n < 16 ^ k → n < f →
    ((Nat.toDigitsCore 16 f n []).map Char.toNat).length ≤ k ∧
    List.replicate (k - ((Nat.toDigitsCore 16 f n []).map Char.toNat).length) 48 ++ (Nat.toDigitsCore 16 f n []).map Char.toNat = hx k n
  | 0, _, _, h, _, _ => by omega
  | k + 1, 0, n, _, _, h => by omega
  | k + 1, f + 1, n, _, h, hf => by
    have hm : n % 16 < 16 := Nat.mod_lt _ (by decide)
    by_cases h0 : n / 16 = 0
    · have e : Nat.toDigitsCore 16 (f + 1) n [] = [Nat.digitChar (n % 16)] := by
        unfold Nat.toDigitsCore
        simp [h0]
      rw [e]
      refine ⟨by simp, ?_⟩
      show List.replicate (k + 1 - 1) 48 ++ [(Nat.digitChar (n % 16)).toNat] = hx k (n / 16) ++ [dig (n % 16)]
      rw [h0, hx_zero, dig_char hm, Nat.add_sub_cancel]
    · have e : Nat.toDigitsCore 16 (f + 1) n [] = Nat.toDigitsCore 16 f (n / 16) [] ++ [Nat.digitChar (n % 16)] := by
        rw [← core_acc]
        conv => lhs; unfold Nat.toDigitsCore
        simp [h0]
      have h16 : n / 16 < 16 ^ k := by
        rw [Nat.div_lt_iff_lt_mul (by decide)]
        rw [Nat.pow_succ] at h
        exact h
      have k1 : 1 ≤ k := by
        cases k with
        | zero => rw [Nat.pow_zero] at h16; omega
        | succ k => omega
      have ih := core_hx k f (n / 16) k1 h16 (by omega)
      rw [e, List.map_append]
      refine ⟨by have i1 := ih.1; simp only [List.length_append, List.length_map, List.length_cons, List.length_nil] at i1 ⊢; omega, ?_⟩
      show List.replicate (k + 1 - _) 48 ++ (_ ++ [(Nat.digitChar (n % 16)).toNat]) = hx k (n / 16) ++ [dig (n % 16)]
      rw [← ih.2, dig_char hm, ← List.append_assoc]
      have el : ((Nat.toDigitsCore 16 f (n / 16) []).map Char.toNat ++ ([Nat.digitChar (n % 16)].map Char.toNat)).length = ((Nat.toDigitsCore 16 f (n / 16) []).map Char.toNat).length + 1 := by simp
      rw [el, show k + 1 - (((Nat.toDigitsCore 16 f (n / 16) []).map Char.toNat).length + 1) = k - ((Nat.toDigitsCore 16 f (n / 16) []).map Char.toNat).length by omega]
theorem toDigits_hx {n : Nat} (h : n < 16 ^ 16) : ((Nat.toDigits 16 n).map Char.toNat).length ≤ 16 ∧
    List.replicate (16 - ((Nat.toDigits 16 n).map Char.toNat).length) 48 ++ (Nat.toDigits 16 n).map Char.toNat = hx 16 n := core_hx 16 (n + 1) n (by decide) h (by omega)
theorem toDigits_ne (n : Nat) : ((Nat.toDigits 16 n).map Char.toNat).isEmpty = false := by
  unfold Nat.toDigits
  by_cases h0 : n / 16 = 0
  · unfold Nat.toDigitsCore
    simp [h0]
  · unfold Nat.toDigitsCore
    simp only [h0, if_false]
    rw [core_acc]
    simp
/-- the digits as they are counted -/
def hexDigits : List Nat := [48, 49, 50, 51, 52, 53, 54, 55, 56, 57, 97, 98, 99, 100, 101, 102]
theorem dig_mem {d : Nat} (h : d < 16) : dig d ∈ hexDigits := by
  have : ∀ d : Fin 16, dig d.val ∈ hexDigits := by decide +kernel
  exact this ⟨d, h⟩
theorem hx_mem : ∀ k n, ∀ c ∈ hx k n, c ∈ hexDigits
  | 0, _, c, h => by simp [hx] at h
  | k + 1, n, c, h => by
    rcases List.mem_append.mp h with h | h
    · exact hx_mem k _ c h
    · rw [List.mem_singleton.mp h]
      exact dig_mem (Nat.mod_lt _ (by decide))
/-- the value of a digit: its first place -/
def val (c : Nat) : Nat := hexDigits.idxOf c
def readHex (l : List Nat) : Nat := l.foldl (fun n c => n * 16 + val c) 0
theorem val_dig {d : Nat} (h : d < 16) : val (dig d) = d := by
  have : ∀ d : Fin 16, val (dig d.val) = d.val := by decide +kernel
  exact this ⟨d, h⟩
theorem read_hx : ∀ k n, n < 16 ^ k → readHex (hx k n) = n
  | 0, n, h => by
    rw [Nat.pow_zero] at h
    have : n = 0 := by omega
    subst this
    rfl
  | k + 1, n, h => by
    have h16 : n / 16 < 16 ^ k := by
      rw [Nat.div_lt_iff_lt_mul (by decide)]
      rw [Nat.pow_succ] at h
      exact h
    have ih := read_hx k _ h16
    unfold readHex at ih ⊢
    show (hx k (n / 16) ++ [dig (n % 16)]).foldl _ 0 = n
    rw [List.foldl_append, ih]
    show n / 16 * 16 + val (dig (n % 16)) = n
    rw [val_dig (Nat.mod_lt _ (by decide))]
    omega
/-- the address's text of a number -/
def hexS (n : Nat) : Str := ⟨(hx 16 n).toArray⟩
end LW
namespace LW
open PySem PySem.Spec PyProof.Rows L2
/-- the field of a number in sixteen hexadecimal digits -/
def fld (neg : Bool) (n : Nat) : Str :=
  let sg : List Nat := if neg then [45] else []
  let ds0 : List Nat := (Nat.toDigits 16 n).map fun c => c.toNat
  let other : Int := (sg.length : Int) + 0 + 0
  let room : Int := 16 - other
  let ds : List Nat := if ds0.isEmpty then [] else List.replicate (room.toNat - ds0.length) 48 ++ ds0
  let pad : Nat := (16 - other - (ds.length : Int)).toNat
  ⟨(List.replicate 0 48 ++ sg ++ [] ++ List.replicate pad 48 ++ ds ++ [] ++ List.replicate 0 48).toArray⟩
theorem iteNo {c : Prop} [Decidable c] {X Y : Prop} (hc : ¬ c) (h : Y) : if c then X else Y := by
  rw [if_neg hc]
  exact h
theorem iteYes {c : Prop} [Decidable c] {X Y : Prop} (hc : c) (h : X) : if c then X else Y := by
  rw [if_pos hc]
  exact h
theorem gives_hex (a : Int) (t u : Tok) : Gives (Builtin.«int.__format__» ⟨[.int a t, .str "016x" u], []⟩) (.str (fld (decide (a < 0)) a.natAbs)) := by
  intro prog w A R s hq
  unfold Builtin.«int.__format__»
  refine wpAny_bind (wpAny_of_eq (a := (_, _)) rfl ?_)
  refine wpAny_bind (wpAny_of_eq (a := a) rfl ?_)
  refine wpAny_bind (wpAny_typeNameOf (T := "str") (typeIs_str _ _ _) (by decide) fun _ => ?_)
  refine wpAny_bind (wpAny_of_eq (a := some _) rfl ?_)
  refine wpAny_ite (iteNo (by decide +kernel) ?_)
  refine wpAny_ite (iteNo (by decide +kernel) ?_)
  refine wpAny_bind (wpAny_typeNameOfCut_int ?_)
  have hp : Builtin.Float.parseFormatSpec (Str.ofString "016x").cps.toList "int" 62 = .ok ⟨48, 61, none, false, false, some 16, none, none, some 120⟩ := by rfl
  rw [hp]
  refine wpAny_ite (iteYes (by decide +kernel) ?_)
  exact Gives.of_eq (m := .str (fld (decide (a < 0)) a.natAbs)) rfl prog w A R s hq
end LW
namespace LW
open PySem PySem.Spec PyProof.Rows L2
theorem fld_hexS {n : Nat} (h : n < 16 ^ 16) : fld false n = hexS n := by
  have e := toDigits_hx h
  have l : (hx 16 n).length = 16 := hx_len 16 n
  unfold fld hexS
  simp only [toDigits_ne, Bool.false_eq_true, if_false, List.length_nil, List.replicate_zero, List.nil_append, List.append_nil]
  rw [show ((16 : Int) - (((0 : Nat) : Int) + 0 + 0)).toNat = 16 from rfl, show (fun c : Char => c.toNat) = Char.toNat from rfl, e.2, l]
  rfl
theorem gives_hexS {n : Nat} (h : n < 16 ^ 16) (t u : Tok) : Gives (Builtin.«int.__format__» ⟨[.int (n : Int) t, .str "016x" u], []⟩) (.str (hexS n)) := by
  have g := gives_hex (n : Int) t u
  rw [show decide ((n : Int) < 0) = false from decide_eq_false (by omega), Int.natAbs_natCast, fld_hexS h] at g
  exact g
theorem hexS_len (n : Nat) : (hexS n).length = 16 := by
  show (hx 16 n).toArray.size = 16
  rw [List.size_toArray, hx_len]
section
variable {X : Cx}
/-- {n:016x} -/
def tHex (te : TE) : TE := fun σ H Q => te σ H fun x H1 => ∃ n : Nat, x = .int (n : Int) ∧ n < 16 ^ 16 ∧ Q (.str (hexS n)) H1
theorem pe_hex {e : Expr} {te : TE} {j : Nat} {p1 p2 pos : Pos} (he : PE X e te) : PE X (.FormattedValue e (-1) (some (.JoinedStr [.Constant (.str "016x") j p1] p2)) pos) (tHex te) := by
  constructor
  intro pins s σ H Q I h
  refine wpAny_FormattedValue_spec (thn (he.run pins s σ H _ I h) ?_)
  rintro v s1 ⟨x, H1, I1, r1, n, ex, hn, q⟩
  subst ex
  obtain ⟨t, et⟩ := r1
  subst et
  refine wpAny_JoinedStr_one (Calls.Constant_str ⟨_, _, rfl, ?_⟩)
  refine wpAny_formatField_spec (by decide +kernel) (fun s' => typeIs_int s' (n : Int) t) F.slot_int_format F.entry_int_format F.args_int_format_2 (fun u => gives_hexS hn t u) ?_ (by decide +kernel)
    (by rw [hexS_len]; decide +kernel)
  exact ⟨.str (hexS n), H1, (I1.tok _).tok _, ⟨_, rfl⟩, q⟩
end
end LW
namespace LW
open PySem PySem.Spec PyProof.Rows L2
/-- as it was but at D -/
def But (D : Addr) (H H' : Hp) : Prop := ∀ b, b ≠ D → H' b = H b
theorem But.refl (D : Addr) (H : Hp) : But D H H := fun _ _ => rfl
theorem But.upd {D : Addr} {H : Hp} {o : HO} : But D H (upd H D o) := fun _ hb => upd_ne hb
theorem But.same {D : Addr} {H H' : Hp} (h : But D H H') (n : H D = none) : Same H H' := fun b o e => by
  rw [h b (ne_of_none e n)]
  exact e
theorem But.list {K : PySem.W.Frag} {D a : Addr} {H H' : Hp} {xs : List V} (h : But D H H') (n : H D = none) (s : SqL K H a xs) : SqL K H' a xs := (h.same n).seq s
theorem upd_eq {H H' : Hp} {D : Addr} {o : HO} (h : But D H H') (e : H' D = some o) : H' = upd H D o := by
  funext b
  by_cases hb : b = D
  · subst hb; rw [e, upd_same]
  · rw [h b hb, upd_ne hb]
section
variable {J : It} {n : Nat} {G : Hp → Prop} {Y : Nat → Hp → V → Hp → Prop}
/-- a comprehension whose parts make nothing -/
theorem lc_flt (w : Walk J n G Y) {j : Nat} {tt : TT} {te : TE} {vs : List Nat} {σ : L2.St} {H1 : Hp} {D : Addr} {Qd : Hp → Prop} (t : Nat → Bool) (f : Nat → V)
    (hn : n < 16000000) (hG : ∀ H, But D H1 H → G H) (hw : ∀ x, wipe ((wipe σ vs).set j (some x)) vs = wipe σ vs)
    (hs : ∀ i x H H', i < n → But D H1 H → Y i H x H' → H' = H ∧ (∀ Q : Bool → Hp → Prop, Q (t i) H → tt ((wipe σ vs).set j (some x)) H Q) ∧ (t i = true → ∀ Q : VK, Q (f i) H → te ((wipe σ vs).set j (some x)) H Q))
    (hd : Qd (upd H1 D (.lst (((List.range n).filter t).map f)))) :
    ∃ W : Nat → Nat → Hp → Prop, (∃ m, W 0 m (upd H1 D (.lst []))) ∧ ∀ i m H, W i m H →
      (J.stop i H ∧ Qd H) ∨ (J.go i H ∧ ∃ Nx : Hp → Prop, (∀ H', Nx H' → ∃ m', m' < m ∧ W (i + 1) m' H') ∧ ∀ x H', J.yld i H x H' → gName j x (wipe σ vs) H' fun σ2 H2 => wipe σ2 vs = wipe σ vs ∧ tt σ2 H2 fun b H3 =>
        if b = true then te σ2 H3 fun y H4 => ∃ acc, H4 D = some (.lst acc) ∧ acc.length < sizeLine ∧ Nx (upd H4 D (.lst (acc ++ [y]))) else Nx H3) := by
  refine lc_it w (fun i H => H = upd H1 D (.lst (((List.range i).filter t).map f))) rfl (fun i H _ e => hG H (by rw [e]; exact But.upd)) ?_ (fun H e => by rw [e]; exact hd)
  rintro i x H H' hi e hy
  have b1 : But D H1 H := by rw [e]; exact But.upd
  obtain ⟨e2, ht, he⟩ := hs i x H H' hi b1 hy
  subst e2
  have hD : H' D = some (.lst (((List.range i).filter t).map f)) := by rw [e, upd_same]
  refine ⟨hw x, ht _ ?_⟩
  rw [List.range_succ, List.filter_append, List.map_append]
  cases hti : t i with
  | true =>
    rw [if_pos rfl]
    refine he hti _ ⟨_, hD, ?_, ?_⟩
    · have l1 : (((List.range i).filter t).map f).length ≤ i := by
        rw [List.length_map]
        exact Nat.le_trans (List.length_filter_le _ _) (by rw [List.length_range]; exact Nat.le_refl _)
      exact Nat.lt_of_le_of_lt l1 (Nat.lt_trans hi (Nat.lt_trans hn (by decide)))
    · rw [e, upd_upd]
      simp [hti]
  | false =>
    rw [if_neg Bool.false_ne_true]
    simp [hti]
    exact e
theorem lc_map (w : Walk J n G Y) {j : Nat} {te : TE} {vs : List Nat} {σ : L2.St} {H1 : Hp} {D : Addr} {Qd : Hp → Prop} (f : Nat → V)
    (hn : n < 16000000) (hG : ∀ H, But D H1 H → G H) (hw : ∀ x, wipe ((wipe σ vs).set j (some x)) vs = wipe σ vs)
    (hs : ∀ i x H H', i < n → But D H1 H → Y i H x H' → H' = H ∧ ∀ Q : VK, Q (f i) H → te ((wipe σ vs).set j (some x)) H Q)
    (hd : Qd (upd H1 D (.lst ((List.range n).map f)))) :
    ∃ W : Nat → Nat → Hp → Prop, (∃ m, W 0 m (upd H1 D (.lst []))) ∧ ∀ i m H, W i m H →
      (J.stop i H ∧ Qd H) ∨ (J.go i H ∧ ∃ Nx : Hp → Prop, (∀ H', Nx H' → ∃ m', m' < m ∧ W (i + 1) m' H') ∧ ∀ x H', J.yld i H x H' → gName j x (wipe σ vs) H' fun σ2 H2 => wipe σ2 vs = wipe σ vs ∧ tYes σ2 H2 fun b H3 =>
        if b = true then te σ2 H3 fun y H4 => ∃ acc, H4 D = some (.lst acc) ∧ acc.length < sizeLine ∧ Nx (upd H4 D (.lst (acc ++ [y]))) else Nx H3) := by
  refine lc_flt w (tt := tYes) (fun _ => true) f hn hG hw (fun i x H H' hi hb hy => ?_) ?_
  · obtain ⟨e, k⟩ := hs i x H H' hi hb hy
    exact ⟨e, fun Q q => q, fun _ => k⟩
  · rw [List.filter_eq_self.mpr (fun _ _ => rfl)]
    exact hd
end
theorem range_map_get {α β : Type} (g : α → β) (d : α) (l : List α) : (List.range l.length).map (fun i => g (l.getD i d)) = l.map g := by
  apply List.ext_getElem
  · simp
  · intro i h1 h2
    simp at h1 h2 ⊢
    rw [List.getElem?_eq_getElem (by simpa using h1)]
    rfl
theorem cutV_map {α : Type} (g : α → V) (xs : List α) (lo hi : Option Int) : ∃ ys : List α, cutV (xs.map g) lo hi = ys.map g ∧ ys.length ≤ xs.length ∧ ∀ y ∈ ys, y ∈ xs := by
  refine ⟨(xs.drop (HT.sIx xs.length 0 lo)).take (HT.sIx xs.length xs.length hi - HT.sIx xs.length 0 lo), ?_, ?_, ?_⟩
  · unfold cutV
    rw [List.length_map, ← List.map_drop, ← List.map_take]
  · rw [List.length_take, List.length_drop]
    omega
  · intro y hy
    exact List.mem_of_mem_drop (List.mem_of_mem_take hy)
section
variable {X : Cx}
/-- repr(b) -/
theorem call_repr_bl : CallR X (.builtin "repr") (fun xs H Q => ∃ b : Bool, xs = [.bl b] ∧ Q (.str (if b then "True" else "False")) H) := by
  intro pins s σ H xs us Q I r h
  obtain ⟨b, rfl, q⟩ := h
  obtain ⟨u, rfl, r1⟩ := vals1 r
  cases (show u = Value.bool b from r1)
  exact PySem.P.repr_of_bool ⟨.str _, H, I.tok _, ⟨_, rfl⟩, q⟩
end
end LW
namespace LW
open PySem PySem.Spec PyProof.Rows L2
/-! ### super().__init__(..) in the __init__ of an own exception over ValueError -/
/-- what the written part says of the class and the code that stands there -/
structure SupAt (P : Program) (K : PySem.W.Frag) (C cc cda : Addr) : Prop where
  T : OexC K C
  cell : ∃ cl cld csl, K.lookup cc = some ⟨cl, cld, .cell (some (.ref C)), csl⟩
  code : ∃ ccl cdd ccs vs file tf, K.lookup cda = some ⟨ccl, cdd, .fields vs, ccs⟩ ∧ vs[2]? = some (.str file tf) ∧ ((P.main.file : Str) == file) = true
  top : (P.main.scope.names.lookup ("super" : Str)).isSome = false
  opq : PySem.W.nsIn K cStatics "thirdparty.any" = some none
  own : PySem.W.mroIn K C (.ref C) = some true
  sup : PySem.W.ks_superIn K C C "__init__" = some (some (.builtin "ValueError.__init__"))
  sub : PySem.W.subIn K (.ref C) (.type "ValueError") = some true
theorem boot_super : bootBuiltins "super" = some (.type "super") := by decide +kernel
section
variable {X : Cx} {pins : List (Addr × Obj)} {σ : L2.St} {H : Hp} {s : Shared}
theorem sup_init {a C cc cda f : Addr} {body rest : List Stmt} {e : Expr} {ta : TA} {p0 p1 p2 p3 pos : Pos} {ar : Arg} {of : Obj} {fd : FuncData} {Qf : Flow → Shared → Prop} {R : Hp → Prop} {i : Nat}
    (S : SupAt X.prog X.K C cc cda) (I : Inv X pins σ H s) (mS : X.mg "super" = none)
    (kf : X.K.lookup f = some of) (of1 : of.data = .func fd) (hp : (fd.params.posonlyargs ++ fd.params.args).head? = some ar)
    (ef : X.env.func = some f) (ec : X.env.code = .ref cda) (hks : X.env.kindOf "super" = some .globalImplicit) (hkc : X.env.kindOf "__class__" = some .free) (hcl : X.env.cells.lookup ("__class__" : Str) = some cc)
    (hka : X.env.kindOf ar.arg = some .local) (hN : X.N[i]? = some ar.arg) (hs : σ[i]? = some (some (.ref a)))
    (ha : H a = some (exo a C none)) (he : PA X [e] ta)
    (h : ta σ H fun vs H1 => vs.length ≤ 1000 ∧ H1 a = some (exo a C none) ∧ R H1)
    (q : ∀ H1 s1, Inv X pins σ H1 s1 → R H1 → H1 a = some (exo a C none) → wpAny (model X.prog X.w) X.A (execs rest X.env) Qf X.xe s1)
    (hi : interactive X.env = false) {pl : Sem Bool}
    (hc : eval (.Call (.Attribute (.Call (.Name "super" p0) [] [] p1) "__init__" p2) [e] [] p3) X.env = (do
      let ov ← attributeBase (.Call (.Name "super" p0) [] [] p1) "__init__" X.env (eval (.Call (.Name "super" p0) [] [] p1) X.env)
      standAt p2.atName
      let (f, first) ← holding [ov] (getMethod ov "__init__" pl)
      callWith p3 f first (backTo p3 (starEach [e] X.env)) []) := by rfl)
    (hst : starEach [e] X.env = (false, eval e X.env) :: starEach [] X.env := by rfl)
    (hsw : swapsWith (.Call (.Attribute (.Call (.Name "super" p0) [] [] p1) "__init__" p2) [e] [] p3) none pos.line X.env = pure false := by rfl) :
    PySem.wpAt (model X.prog X.w) X.A (.func body X.env) (execs (.Expr (.Call (.Attribute (.Call (.Name "super" p0) [] [] p1) "__init__" p2) [e] [] p3) pos :: rest) X.env) Qf X.xe s := by
  obtain ⟨nm, qn, N, bs, bm, sn, sub, ab, col, dd, k0, k1, k2, k3, k5, hC, hbm⟩ := S.T.cls
  obtain ⟨cl, cld, csl, hcell⟩ := S.cell
  obtain ⟨ccl, cdd, ccs, vs, file, tf, hcode, hvs, hfile⟩ := S.code
  obtain ⟨t1, hx⟩ := exo_at I.hok ha
  obtain ⟨mb, hb1, hb2⟩ := I.mod.blt
  have hcd : PySem.W.clsIn X.K C = some { name := nm, bases := bs, mro := .ref C :: bm, ns := N, qualname := qn, hasDict := true, slotNames := sn, subclasses := sub, abstract := ab, collection := col, hasDel := false } := by unfold PySem.W.clsIn; rw [hC] <;> rfl
  have sup := S.sup
  unfold PySem.W.ks_superIn at sup
  rw [hcd] at sup
  refine ks_wpAt_execs_cons (ks_wpAt_Expr_any (ks_wpAt_MethodCall (pl := pl) ?_ hc) hi hsw)
  refine ks_wpAt_super_base hks hkc (by decide) ef (I.kIn _ _ kf) of1 hp ec (I.kIn _ _ hcode) rfl hvs hfile S.top ?_
  refine PySem.W.ks_loadName_global I.ok.kind hks (Calls.loadGlobal_builtin (by rw [I.ok.glob]; exact I.mod.glob.keeps I.bk) mS (by rw [I.ok.blt]; exact hb1.keeps I.bk) ((hb2 "super" (by decide)).trans boot_super) ⟨rfl, ?_⟩)
  refine wpAny_loadName_free I.ok.kind hkc hcl ⟨_, I.kIn _ _ hcell, rfl⟩ ?_
  have hself : ∃ m, s.heap.Ns X.env.locals m ∧ m ar.arg = some (.ref a) := by
    obtain ⟨m, hn, hlk⟩ := I.loc
    obtain ⟨u, ru, L⟩ := hlk i ar.arg (.ref a) hN hs (.inl hka)
    cases (show u = Value.ref a from ru)
    rcases L with ⟨_, z⟩ | ⟨z, _⟩
    · exact ⟨m, hn, z⟩
    · rw [hka] at z
      rcases z with z | z <;> cases z
  obtain ⟨m, hns, hm⟩ := hself
  refine wpAny_loadName_local I.ok.kind hka hns hm ?_
  refine ks_wpAny_isType_cls (I.kIn _ _ hC) rfl ⟨rfl, ?_⟩
  obtain ⟨hp, g, d, t, os⟩ := s
  refine ks_wpAny_call_super (I.kIn _ _ hC) rfl hx rfl (fun c z => nomatch z) (PySem.W.looks_mroIn I.kIn S.own) (fun h' es k => ?_)
  have I1 : Inv X pins σ H ⟨h', g, d, t, os⟩ := I.kept (t' := t) k
  have hx1 := k _ _ hx
  have IA : PySem.W.InstAt h' a ({ cls := .ref C, dict := none, data := .fields #[.ref t1, .none, .none, .none, .bool false, .none] } : Obj) C none := ⟨hx1, rfl, rfl, trivial⟩
  refine PySem.W.kxs_getMethod PySem.W.kxs_ValueError es (PySem.W.looks_opaque I1.kIn S.opq) (l₀ := .ref C :: bm) ?_ rfl I1.kIn sup (IA.type.andThen (PySem.W.looks_subIn I1.kIn S.sub)) (PySem.W.ks_ne I1.kIn IA hcd) (by decide) ?_
  · exact fun A Q E s k q => wpAny_bind ((PySem.W.looks_clsIn I1.kIn hcd) A _ E s k (wpAny_pure q))
  · have szu : hp.objs.size < h'.objs.size := Heap.lt_size es
    have lex := Heap.lt_size hx1
    have k2 : ∀ b o, h'.get? b = some o → (h'.push (PySem.W.kxs_mw "ValueError.__init__" a)).get? b = some o := fun b o z => Heap.get?_push_of_some _ z
    have hu : (h'.push (PySem.W.kxs_mw "ValueError.__init__" a)).get? h'.objs.size = some (PySem.W.kxs_mw "ValueError.__init__" a) := Heap.get?_push_at rfl rfl
    have I2 : Inv X pins σ H ⟨h'.push (PySem.W.kxs_mw "ValueError.__init__" a), g, d, t + 1, os⟩ := I1.kept (t' := t + 1) k2
    have fpo := I1.fpOk (Nat.le_refl h'.objs.size) (I1.hok.fresh (Nat.le_refl _))
    have I3 : Inv X (pins ++ [(h'.objs.size, PySem.W.kxs_mw "ValueError.__init__" a)]) σ H ⟨h'.push (PySem.W.kxs_mw "ValueError.__init__" a), g, d, t + 1, os⟩ := I2.pins_of fun p hp => by
      rcases List.mem_append.mp hp with z | z
      · exact I2.pin p (List.mem_append_right _ z)
      · rw [List.mem_singleton.mp z]
        exact ⟨hu, fpo.1, fpo.2.1, fpo.2.2.1, fun v z => nomatch z⟩
    rw [hst]
    refine PySem.W.kxs_callWith (i := "ValueError.__init__") (x := a) rfl (Calls.evalArgs_plain ?_)
    have run := he.run p3 _ _ σ H _ I3 h
    rw [hst] at run
    refine thn run ?_
    rintro us s1 ⟨ws, H1, J, rv, hlen, ha1, hR⟩
    have hu1 : s1.heap.get? h'.objs.size = some (PySem.W.kxs_mw "ValueError.__init__" a) := (J.pin (h'.objs.size, PySem.W.kxs_mw "ValueError.__init__" a) (by simp)).1
    refine ⟨hu1, ?_⟩
    obtain ⟨t2, hx2⟩ := exo_at J.hok ha1
    have hz : us.length ≤ sizeLine := by
      rw [← Paired.length rv, sizeLine_eq]
      omega
    obtain ⟨h2, g2, d2, tk2, os2⟩ := s1
    refine wpAny_call (codeAny_of_tree ?_)
    show wpAny _ X.A.in1 (callAny (.ref h'.objs.size) ⟨us, []⟩) _ _ _
    simp only [callAny]
    refine wpAny_bind (wpAny_load hu1 ?_)
    simp only [PySem.W.kxs_mw, show (Value.type "method-wrapper" == Value.type "method" || Value.type "method-wrapper" == Value.type "builtin_function_or_method" || Value.type "method-wrapper" == Value.type "method-wrapper") = true by decide, if_true]
    refine PySem.W.KFB.if_so (by decide) ?_
    refine wpAny_bind (PySem.W.check_bound_init F.excBase_ValueError.toExcCallFacts (J.kIn _ _ hC) hx2 rfl ?_)
    refine wpAny_bind (wpAny_pure (wpAny_pure ?_))
    refine ⟨plainId_quiet F.excBase_ValueError.init.plain _, codeAny_builtin F.excBase_ValueError.initEntry ?_⟩
    refine PySem.W.exc_init_tree (cls := .ref C) (t0 := t2) (dv := none) (c2 := .none) (c3 := .none) (b4 := .bool false) hx2 hz fun h3 k3 e3 t3 => ?_
    have J2 := J.write (t' := tk2) (x := a) (e := a) (o := exo a C none) (by rw [ha1]; exact True.intro) (.inl rfl) k3 ⟨_, e3⟩ (exo_ok e3)
    have eu : upd H1 a (exo a C none) = H1 := by
      funext b
      by_cases hb : b = a
      · rw [hb, upd_same, ha1]
      · rw [upd_ne hb]
    rw [eu] at J2
    exact PySem.wpAt_of_wpAny (q H1 _ J2.unpinned hR ha1)
end
end LW
namespace LW
open PySem PySem.Spec PyProof.Rows L2
structure SupScope (N P : List Str) (sc : Scope) : Prop where
  kind : sc.kind = .function
  co : sc.isCoroutine = false
  gen : sc.isGenerator = false
  nd : N.Nodup
  pre : N.take P.length = P
  par : ∀ x ∈ P, sc.names.lookup x = some .local
  nocell : ∀ y ∈ sc.names, y.2 ≠ .cell
  free : ∀ y ∈ sc.names, y.2 = .free → y.1 = ("__class__" : Str)
def cxS (CX : CXT) (P : Program) (w : World) (K : PySem.W.Frag) (mg : Str → Option Value) (base : Heap) (N : List Str) (qual : Str) (scope : Scope) (f : Addr) (cd : Value) (cc : Addr) (A : Around) (outer : List Env) (s : Shared) (H : Hp) (E : XK) : Cx where
  prog := P
  w := w
  K := K
  mg := mg
  base := base
  A := A.deeper (PySem.W.ksEnv qual scope s.heap.objs.size f cd cc)
  N := N
  s_0 := s
  H_0 := H
  env := PySem.W.ksEnv qual scope s.heap.objs.size f cd cc
  outer := outer
  stack := PySem.W.ksEnv qual scope s.heap.objs.size f cd cc :: outer
  ex := []
  calm := true
  fn := fun _ => false
  pn := []
  xe := fun e s' => wpAny (model P w) (A.deeper (PySem.W.ksEnv qual scope s.heap.objs.size f cd cc)) (leaving (PySem.W.ksEnv qual scope s.heap.objs.size f cd cc) e) (fun _ s'' => CX outer H s E e s'') (fun e' s'' => CX outer H s E e' s'') s'
theorem zip_lookup {P : List Str} {us : List Value} {i : Nat} {x : Str} {v : Value} (nd : P.Nodup) (h1 : P[i]? = some x) (h2 : us[i]? = some v) : (P.zip us).reverse.lookup x = some v := by
  induction P generalizing us i with
  | nil => simp at h1
  | cons p r ih =>
    cases us with
    | nil => simp at h2
    | cons u us =>
      show ((p, u) :: r.zip us).reverse.lookup x = some v
      rw [List.reverse_cons, List.lookup_append]
      cases i with
      | zero =>
        simp at h1 h2
        subst h1
        subst h2
        have : (r.zip us).reverse.lookup p = none := by
          cases e : (r.zip us).reverse.lookup p with
          | none => rfl
          | some w =>
            have m := PySem.mem_of_lookup e
            rw [List.mem_reverse] at m
            exact absurd (List.of_mem_zip m).1 (List.nodup_cons.mp nd).1
        rw [this]
        simp
      | succ i =>
        rw [ih (List.nodup_cons.mp nd).2 (by simpa using h1) (by simpa using h2)]
        rfl
theorem inv_sup {CX : CXT} {P : Program} {w : World} {K : PySem.W.Frag} {mg : Str → Option Value} {base : Heap} {N ps : List Str} {qual : Str} {scope : Scope} {f cc : Addr} {cd : Value} {A : Around} {outer : List Env} {s : Shared} {H : Hp} {E : XK} {us : List Value} {vs : List V} {h₀ : Heap} {tk : Nat} {oc : Obj} {vc : Option Value}
    (S : SupScope N ps scope) (hd : A.handled = none) (e0 : Env0 P w K mg base A outer s H) (hl : vs.length = ps.length) (r : Vals vs us) (hcc : K.lookup cc = some oc) (hvc : oc.data = .cell vc)
    (hns : h₀.Ns s.heap.objs.size (fun x => (ps.zip us).reverse.lookup x)) (hk : ∀ b o, s.heap.get? b = some o → h₀.get? b = some o) :
    Inv (cxS CX P w K mg base N qual scope f cd cc A outer s H E) [] (start N vs) H { s with heap := h₀, toks := tk } := by
  have hpl : ps.length ≤ N.length := by have := congrArg List.length S.pre; rw [List.length_take] at this; omega
  have noA : ∀ b : Addr, b ∉ (cxS CX P w K mg base N qual scope f cd cc A outer s H E).ex := fun b z => absurd (show b ∈ ([] : List Addr) from z) (by simp)
  have only : ∀ y c, (cxS CX P w K mg base N qual scope f cd cc A outer s H E).env.cells.lookup y = some c → y = ("__class__" : Str) ∧ c = cc := fun y c z => by
    have m : (y, c) ∈ [(("__class__" : Str), cc)] := PySem.mem_of_lookup z
    have e := List.mem_singleton.mp m
    cases e
    exact ⟨rfl, rfl⟩
  have kin : K.In s.heap := e0.mod.kin.keeps fun b o e => (e0.bs b o e).1
  have ccH : H cc = none := (e0.bs cc oc (e0.mod.kin _ _ hcc)).2
  refine ⟨⟨e0.mod, S.kind, rfl, rfl, Nat.le_refl _, fun y z c h1 h2 => (only y c h1).1.trans (only z c h2).1.symm, fun y hy => ?_, fun y c z _ => absurd (show false = true from z) Bool.false_ne_true, fun _ => hd, Around.frames_deeper e0.frames, .inr ⟨rfl, rfl⟩, fun b z => absurd z (noA b), e0.bs, e0.bsz, fun b _ _ => noA b, fun b z => absurd z (noA b), e0.funs, e0.frf⟩,
    rfl, e0.bare, Un.kept hk, ⟨_, hns, fun i y v h1 h2 h3 => ?_⟩, fun y c h => ?_, e0.hok.fresh (Nat.le_refl _), fun y c h => ?_, fun p hp => absurd (show p ∈ ([] : List (Addr × Obj)) from hp) (by simp), e0.hok.kept hk, ?_⟩
  · have hy : scope.names.lookup y = some .cell ∨ scope.names.lookup y = some .free := hy
    rcases hy with hy | hy
    · exact absurd rfl (S.nocell _ (PySem.mem_of_lookup hy))
    · have e := S.free _ (PySem.mem_of_lookup hy) rfl
      cases e
      exact ⟨cc, rfl⟩
  · have hi : i < vs.length := by
      unfold L2.start at h2
      by_cases hi : i < vs.length
      · exact hi
      · rw [List.getElem?_append_right (by simpa using hi)] at h2
        rw [List.getElem?_replicate] at h2
        split at h2 <;> cases h2
    have ha : vs[i]? = some v := by
      unfold L2.start at h2
      rw [List.getElem?_append_left (by simpa using hi), List.getElem?_map] at h2
      cases e : vs[i]? with
      | none => rw [e] at h2; cases h2
      | some a => rw [e] at h2; cases h2; rfl
    obtain ⟨u, hu, rv⟩ := r.get ha
    have hp : ps[i]? = some y := by
      rw [← S.pre, List.getElem?_take_of_lt (by omega)]; exact h1
    have ndP : ps.Nodup := by rw [← S.pre]; exact S.nd.sublist (List.take_sublist _ _)
    exact ⟨u, rv, .inl ⟨S.par y (List.mem_of_getElem? hp), zip_lookup ndP hp hu⟩⟩
  · rw [(only y c h).2]
    exact ⟨vc, oc, hk _ _ (kin _ _ hcc), hvc⟩
  · rw [(only y c h).2]
    exact ccH
  · unfold L2.start
    show _ = N.length
    rw [List.length_append, List.length_map, List.length_replicate]
    omega
/-- THE RULE: a def whose scope has the free name __class__, by its body -/
theorem fn_sup {CX : CXT} {P : Program} {w : World} {K : PySem.W.Frag} {mg : Str → Option Value} {base : Heap} {k : Nat} {f cc : Addr} {name qual : Str} {params : Arguments} {body : List Stmt} {scope : Scope} {dV kV doc pm cdv ct oc : Value} {an od : Option Addr}
    {osl : Array (Option Value)} {N ps : List Str} {sp : Sp} {occ : Obj} {vc : Option Value} (lk : K.lookup f = some ⟨oc, od, .func (PySem.W.ksFn name qual params body scope dV kV doc pm an cdv ct cc), osl⟩) (hcd : PySem.W.codeIn K cdv qual = true) (hcc : K.lookup cc = some occ) (hvc : occ.data = .cell vc)
    (S : SupScope N ps scope) (len : ∀ vs H Q E, sp vs H Q E → vs.length = ps.length)
    (hbody : ∀ (A : Around) (outer : List Env) (s : Shared) (H : Hp) (vs : List V) (Q : VK) (E : XK) (s1 : Shared), Room k (A.deeper (PySem.W.ksEnv qual scope s.heap.objs.size f cdv cc)) → sp vs H Q E →
      Inv (cxS CX P w K mg base N qual scope f cdv cc A outer s H E) [] (L2.start N vs) H s1 →
      PySem.wpAt (model P w) (A.deeper (PySem.W.ksEnv qual scope s.heap.objs.size f cdv cc)) (.func body (PySem.W.ksEnv qual scope s.heap.objs.size f cdv cc)) (execs body (PySem.W.ksEnv qual scope s.heap.objs.size f cdv cc))
        (SP (cxS CX P w K mg base N qual scope f cdv cc A outer s H E) [] { nx := fun _ H' => Q .non H', rt := Q }) (cxS CX P w K mg base N qual scope f cdv cc A outer s H E).xe s1) :
    FnOk P w K mg base CX (k + 1) f (PySem.W.ksFn name qual params body scope dV kV doc pm an cdv ct cc) ps sp := by
  refine ⟨len, fun A outer s H args us vs Q E hr e0 hb r hsp => ?_⟩
  have hl := len _ _ _ _ hsp
  have KX : K.In s.heap := e0.mod.kin.keeps fun b o e => (e0.bs b o e).1
  have lim : s.heap.NoLimit := e0.mod.nolimit.keeps fun b o e => (e0.bs b o e).1
  refine ks_codeAny_call_defAt (fd := PySem.W.ksFn name qual params body scope dV kV doc pm an cdv ct cc) (body := body) (binds := ps.zip us) hr.depth (KX _ _ lk) rfl lim (PySem.W.codeRec_of KX hcd) rfl hb S.nocell
    (fun y hy => S.par _ (List.of_mem_zip (show (y.1, y.2) ∈ ps.zip us from hy)).1) (fun h₁ hns hk₁ => ?_) S.co S.gen S.kind
  have I : Inv (cxS CX P w K mg base N qual scope f cdv cc A outer s H E) [] (L2.start N vs) H { s with heap := h₁, toks := s.toks + (ps.zip us).length } := inv_sup S hr.hd e0 hl r hcc hvc hns hk₁
  refine ks_wpAt_mono (hbody A outer s H vs Q E _ (hr.deeper _) hsp I) (fun fl s' hs => ?_) fun e s' hs => hs
  have fin : ∀ {σ' : L2.St} {H' : Hp} {v : V} {u : Value}, Inv (cxS CX P w K mg base N qual scope f cdv cc A outer s H E) [] σ' H' s' → RelV v u → Q v H' → CE outer P w H s Q u s' :=
    fun {σ' H' v u} J rv q => ⟨v, H', J.os, J.bare, J.base, J.hok, rv, q⟩
  cases fl with
  | ret u =>
    obtain ⟨v, σ', H', J, rv, q⟩ := hs
    exact fin J rv q
  | next =>
    obtain ⟨σ', H', J, q⟩ := hs
    exact fin (v := V.non) (u := Value.none) J rfl q
  | brk =>
    obtain ⟨_, _, _, q⟩ := hs
    exact False.elim q
  | cont =>
    obtain ⟨_, _, _, q⟩ := hs
    exact False.elim q
end LW
namespace LW
open PySem PySem.Spec PyProof.Rows L2
/-! ### enumerate(list, start=c) -/
/-- the list at a as it stands at each turn, each item in a new pair behind c + i -/
def IteC (K : PySem.W.Frag) (c : Int) (a : Addr) : It where
  go := fun i H => ∃ (xs : List V) (x : V), SqL K H a xs ∧ xs[i]? = some x
  yld := fun i H v H' => ∃ T x, v = .ref T ∧ H T = none ∧ H' = upd H T (.tup [.int (c + (i : Nat)), x]) ∧ ∀ xs, SqL K H a xs → xs[i]? = some x
  stop := fun i H => ∃ xs : List V, SqL K H a xs ∧ xs.length ≤ i
theorem apart_cls {h : Heap} {a b : Addr} {o o' : Obj} (e : h.get? a = some o) (e' : h.get? b = some o') (n : o.cls ≠ o'.cls) : a ≠ b := by
  intro z
  subst z
  rw [e] at e'
  cases e'
  exact n rfl
theorem turn_enumC {P : Program} {w : World} {K : PySem.W.Frag} {elts : List Expr} {kk : Nat} {tp : Pos} (c : Int) (a e it : Addr) :
    Turn P w K (.Tuple elts kk tp) (IteC K c a) [e, it] e (fun i h => (∃ old, IsEnum h e it (c + (i : Nat)) old) ∧ h.IsListIter it a i ∧ e ≠ it) where
  mem := by simp
  obj := by
    rintro i h ⟨⟨old, he⟩, ⟨o, ho, hc, hd⟩, _⟩ b hb
    have e' : b = e ∨ b = it := by simpa using hb
    rcases e' with z | z
    · subst z
      exact ⟨_, he, fun v q => nomatch q⟩
    · subst z
      exact ⟨o, ho, fun v q => by rw [hd] at q; cases q⟩
  keep := by
    rintro i h h' ⟨⟨old, he⟩, hi, hne⟩ k
    exact ⟨⟨old, k e (by simp) _ he⟩, hi.at fun o q => k it (by simp) o q, hne⟩
  item := by
    intro X hP hw hK hc i pins s σ H E I hf st hg
    subst hP
    subst hw
    subst hK
    obtain ⟨⟨old, he⟩, hit, hne⟩ := st
    obtain ⟨xs, x, hq, hx⟩ := hg
    obtain ⟨its, rv, p, hz⟩ := I.list hq
    obtain ⟨u, hu, ru⟩ := rv.get hx
    have hel := Heap.lt_size he
    have hil : it < s.heap.objs.size := by
      obtain ⟨_, q, _⟩ := hit
      exact Heap.lt_size q
    have hl := p.isList
    have nli : a ≠ it := by
      obtain ⟨o1, q1, c1, _⟩ := hit
      obtain ⟨o2, q2, c2, _⟩ := hl
      exact apart_cls q2 q1 (by rw [c1, c2]; decide)
    have nel : e ≠ a := by
      obtain ⟨o2, q2, c2, _⟩ := hl
      exact apart_cls he q2 (by rw [c2]; show Value.type "enumerate" ≠ Value.type "list"; decide)
    have D := Draws.list (prog := X.prog) (w := X.w) (A := X.A.in1) (I.ok.hd hc) it a nli its.toArray
    have hlt : i < its.toArray.size := by
      have := (List.getElem?_eq_some_iff.mp hu).1
      simpa using this
    refine wpAny_pyNext_enum_itemC D he ⟨hit, hl⟩ hlt hne (by simp [hne, nel]) ?_
    intro y h' tk hy ho hst hT hsz hk
    have ey : y = u := by
      have h1 : its.toArray[i]? = some y := hy
      rw [List.getElem?_toArray, hu] at h1
      exact (Option.some.inj h1).symm
    subst ey
    refine ⟨_, rfl, wpAny_letOwnedTupleGo_enum (s := { s with heap := h', toks := tk + 1 }) ho ?_⟩
    intro h2 he2 sb
    have hT2 : h2.get? s.heap.objs.size = some { cls := .type "tuple", data := .seq #[.int (c + (i : Nat)) tk, y] } := (sb.2 _ (Nat.ne_of_gt hel)).trans hT
    have new : ObjOk X.prog X.w (upd H s.heap.objs.size (.tup [.int (c + (i : Nat)), x])) h2 s.heap.objs.size (.tup [.int (c + (i : Nat)), x]) :=
      ⟨by show 2 ≤ sizeLine; decide, [.int (c + (i : Nat)) tk, y], .cons ⟨_, rfl⟩ (.cons ru .nil), ⟨_, hT2, rfl, _, rfl⟩⟩
    have I1 := I.turnedNew (ch := [e, it]) (h' := h2) (t' := tk + 1) (T := s.heap.objs.size) (ob := .tup [.int (c + (i : Nat)), x])
      (fun b ob hb q => (sb.2 b (fun z => hb (by simp [z]))).trans (hk b ob (fun z => hb (by simp [z])) (fun z => hb (by simp [z])) q)) hf (Nat.le_refl _) new
    refine ⟨.ref s.heap.objs.size, _, I1, rfl, ⟨_, x, rfl, I.hok.fresh (Nat.le_refl _), rfl, ?_⟩, ⟨⟨y, ?_⟩, hst.1.at fun o q => (sb.2 it (Ne.symm hne)).trans q, hne⟩, ?_⟩
    · intro ys hy
      rw [I.list_inj hy hq]
      exact hx
    · have e1 : c + ((i + 1 : Nat) : Int) = c + (i : Int) + 1 := by omega
      rw [e1]
      exact he2
    · intro b hb
      have e' : b = e ∨ b = it := by simpa using hb
      have hb' : b < s.heap.objs.size := by
        rcases e' with z | z
        · rw [z]; exact hel
        · rw [z]; exact hil
      rw [upd_ne (Nat.ne_of_lt hb')]
      exact (hf b hb).1
  done := by
    intro X hP hw hK hc i pins s σ H E I hf st hg
    subst hP
    subst hw
    subst hK
    obtain ⟨⟨old, he⟩, hit, hne⟩ := st
    obtain ⟨xs, hq, hx⟩ := hg
    obtain ⟨its, rv, p, hz⟩ := I.list hq
    have hl := p.isList
    have nli : a ≠ it := by
      obtain ⟨o1, q1, c1, _⟩ := hit
      obtain ⟨o2, q2, c2, _⟩ := hl
      exact apart_cls q2 q1 (by rw [c1, c2]; decide)
    obtain ⟨f0, f1, f2, f3, f4, f5⟩ := hf it (by simp)
    have len := rv.length
    have hTy : s.TypeIs (.ref e) "enumerate" := ⟨_, he, rfl⟩
    unfold pyNext
    refine wpAny_bind (wpAny_attempt (wpAny_callSpecial?_slot (name := Str.ofString "__next__") hTy F.slot_enumerate_next (wpAny_call_entry F.slot_enumerate_next hTy F.entry_enumerate_next ?_ (F.args_enumerate_next_1 _))))
    show wpAny _ _ (field (.ref e) 2 >>= _) _ _ _
    refine wpAny_bind (wpAny_field he rfl (x := .ref it) rfl ?_)
    refine wpAny_bind (wpAny_nextOf_list_end (I.ok.hd hc) hit hl (by simp; omega) ?_)
    rintro h' x he' ⟨o, ho, hcl⟩
    refine wpAny_bind (wpAny_isInstance (T := "StopIteration") (b := true) ⟨o, ho, hcl⟩ isSubtype_stop ?_)
    exact wpAny_pure ⟨rfl, I.turned (t' := s.toks) (fun b o hb q => he' b o hb q) f0 f1 f3 f4 f5⟩
  self := by
    rintro A i s Q E ⟨⟨_, he⟩, _⟩ h
    exact wpAny_pyIter_enum he h
theorem callWith_tyKw {M : Model} {A : Around} {E : Value → Shared → Prop} {s : Shared} {env : Env} {pos : Pos} {T : String} {e : Expr} {rest : List Expr} {kws : List Keyword} {Q : Value → Shared → Prop}
    (h : wpAny M A (spliced (backTo pos (starEach (e :: rest) env))) (fun vs s1 => wpAny M A (evalAll ((backToKw pos (keywordEach kws env)).map (·.2)))
      (fun kvs s2 => wpAny M A (call (.type T) vs (((backToKw pos (keywordEach kws env)).filterMap (·.1)).zip kvs)) Q E s2) E s1) E s)
    (he : backTo pos (starEach (e :: rest) env) = (false, eval e env) :: backTo pos (starEach rest env) := by rfl)
    (hp : (backTo pos (starEach (e :: rest) env)).any (·.1) = false := by rfl)
    (hall : (backToKw pos (keywordEach kws env)).all (·.1.isSome) = true := by rfl)
    (hkw : (backToKw pos (keywordEach kws env)).any (·.1.isNone) = false := by rfl) :
    wpAny M A (callWith pos (.type T) [] (backTo pos (starEach (e :: rest) env)) (backToKw pos (keywordEach kws env))) Q E s := by
  have g : wpAny M A (evalArgs (.type T) true (backTo pos (starEach (e :: rest) env)) (backToKw pos (keywordEach kws env))) (fun a s1 => wpAny M A (call (.type T) ([] ++ a.pos) a.kw) Q E s1) E s := by
    rw [he] at h ⊢
    exact evalArgs_kwB hall h
  unfold callWith
  refine wpAny_bind (wpAny_holding (wpAny_mono g (fun a s1 h1 => wpAny_bind (wpAny_standAt ?_)) fun _ _ z => z))
  simp only [hp, hkw, Bool.or_false]
  refine wpAny_bind (wpAny_pure ?_)
  exact wpAny_bind (wpAny_mono h1 (fun r s2 hr => wpAny_bind (wpAny_holding (wpAny_point (wpAny_pure hr)))) fun _ _ z => z)
def iEnumC (K : PySem.W.Frag) (ta tk : TA) : TI := fun σ H R => ta σ H fun vs H1 => tk σ H1 fun ks H2 => ∃ (a : Addr) (c : Int) (xs : List V), vs = [.ref a] ∧ ks = [.int c] ∧ -(2 ^ 63) ≤ c ∧ c < 2 ^ 63 ∧ SqL K H2 a xs ∧ R (IteC K c a) H2
theorem pi_enumC {X : Cx} {e se : Expr} {ta tk : TA} {p pos kp tp : Pos} {elts : List Expr} {kk : Nat} (hg : Gl X "enumerate") (hm : X.mg "enumerate" = none) (ha : PA X [e] ta) (hk : PK X [⟨some "start", se, kp⟩] tk)
    (hs : starEach [e] X.env = [(false, eval e X.env)] := by rfl) :
    PI X (.Tuple elts kk tp) (.Call (.Name "enumerate" p) [e] [⟨some "start", se, kp⟩] pos) (iEnumC X.K ta tk) := by
  constructor
  intro pins s σ H R I h
  refine wpAny_Call_Name_kw (ld_blt I hg hm boot_enumerate (callWith_tyKw (kws := [⟨some "start", se, kp⟩]) (thn (ha.run pos pins s σ H _ I h) ?_) (by rw [hs]; rfl) (by rw [hs]; rfl)))
  rintro us s1 ⟨vs, H1, I1, r1, q1⟩
  refine thn (hk.run pos pins s1 σ H1 _ I1 q1) ?_
  rintro ws s2 ⟨ks, H2, I2, r2, a, c, xs, ea, ec, c0, c1, hq, q⟩
  subst ea
  subst ec
  cases r1 with
  | cons r rr =>
    cases rr
    cases r
    cases r2 with
    | cons r' rr' =>
      cases rr'
      obtain ⟨t, et⟩ := r'
      subst et
      obtain ⟨its, rv, p', hz⟩ := I2.list hq
      show wpAny _ _ (call (.type "enumerate") [.ref a] [(Str.ofString "start", .int c t)]) _ _ _
      refine enum_begins_start (begins_list a its.toArray) p'.isList c0 c1 ?_
      intro h' he hit hsz hkp
      have hiter : h'.IsListIter s2.heap.objs.size a 0 := ⟨_, hit, rfl, rfl⟩
      refine wpAny_pyIter_enum he ?_
      have I3 : Inv X pins σ H2 { s2 with heap := h' } := I2.kept (t' := s2.toks) hkp
      refine ⟨s2.heap.objs.size + 1, [s2.heap.objs.size + 1, s2.heap.objs.size], _, _, H2, rfl, I3, turn_enumC c a (s2.heap.objs.size + 1) s2.heap.objs.size, ⟨⟨.none, ?_⟩, hiter, Nat.succ_ne_self _⟩, ?_, q⟩
      · rw [show c + ((0 : Nat) : Int) = c by omega]
        exact he
      · intro b hb
        have e' : b = s2.heap.objs.size + 1 ∨ b = s2.heap.objs.size := by simpa using hb
        have hle : s2.heap.objs.size ≤ b := by
          rcases e' with z | z
          · rw [z]; exact Nat.le_add_right _ _
          · rw [z]; exact Nat.le_refl _
        exact I2.fpOk hle (I2.hok.fresh hle)
theorem walk_enumC {K : PySem.W.Frag} {c : Int} {a : Addr} {xs : List V} : Walk (IteC K c a) xs.length (fun H => SqL K H a xs) (YPair (fun i => some (.int (c + (i : Nat)))) (fun i => xs[i]?)) := by
  refine ⟨fun i _ hi q => ⟨xs, xs[i], q, by simp [hi]⟩, fun _ q => ⟨xs, q, Nat.le_refl _⟩, ?_⟩
  rintro i H v H' _ q ⟨T, x, h1, h2, h3, h4⟩
  exact ⟨T, .int (c + (i : Nat)), x, h1, h2, h3, rfl, h4 xs q⟩
end LW
namespace LW
open PySem PySem.Spec PyProof.Rows L2 GxR
/-- sixteen hexadecimal digits -/
def isAddr (t : Str) : Bool := decide (t.length = 16) && t.cps.toList.all fun c => decide (c ∈ hexDigits)
theorem digits_eq : (Str.ofString "0123456789abcdef").cps.toList = hexDigits := by decide +kernel
/-- a def of the text whose code object stands at c -/
structure FunC (K : PySem.W.Frag) (x qual : Str) (st : Stmt) (f : Addr) (fd : FuncData) (c : Addr) : Prop where
  ex : ∃ (oc : Value) (od : Option Addr) (kV doc pm : Value) (an : Option Addr) (ct : Value) (osl : Array (Option Value)),
    fd = PySem.W.fnOf x qual (defArgs st) (defBody st) (defScope st) .none kV doc pm an (.ref c) ct ∧ K.lookup f = some ⟨oc, od, .func fd, osl⟩ ∧ PySem.W.codeIn K (.ref c) qual = true
  kp : PySem.W.keepIn K (.ref f) = true
theorem FunC.ok {P : Program} {w : World} {K : PySem.W.Frag} {mg : Str → Option Value} {base : Heap} {x qual : Str} {st : Stmt} {f c : Addr} {fd : FuncData} {N ps : List Str} {k : Nat} {sp : Sp} (F : FunC K x qual st f fd c)
    (S : FnScope N ps (defScope st)) (len : ∀ vs H Q E, sp vs H Q E → vs.length = ps.length)
    (body : ∀ (A : Around) (outer : List Env) (s : Shared) (H : Hp) (vs : List V) (Q : VK) (E : XK), Room k (A.deeper (envOfC qual (defScope st) s.heap.objs.size f (.ref c))) → sp vs H Q E →
      ∃ t, PSs (cxOf CX0 P w K mg base N qual (defScope st) f (.ref c) A outer s H E).nox (defBody st) t ∧ t { nx := fun _ H' => Q .non H', rt := Q } (L2.start N vs) H) :
    FnOk P w K mg base CX0 (k + 1) f fd ps sp := by
  obtain ⟨oc, od, kV, doc, pm, an, ct, osl, e, lk, hcd⟩ := F.ex
  subst e
  refine fn_of lk hcd S len fun A outer s H vs Q E hr hsp => ?_
  obtain ⟨t, h, q⟩ := body A outer s H vs Q E hr hsp
  exact ⟨t, h.nox, q⟩
theorem no_free {ns : List (Str × NameKind)} {R : Str × NameKind → Prop} (h : ∀ y ∈ ns, y.2 ≠ .free) : ∀ y ∈ ns, y.2 = .free → R y := fun y hy e => absurd e (h y hy)
/-- a def of the module by its name -/
structure DefAt (K : PySem.W.Frag) (mg : Str → Option Value) (x : Str) (st : Stmt) (ps : List Str) (f : Addr) (fd : FuncData) : Prop where
  fn : Fun K x x st f fd
  at_ : mg x = some (.ref f)
  bd : Binds K fd ps []
theorem tyes {σ : L2.St} {H : Hp} {A B : Hp → Prop} (h : A H) : tYes σ H fun b H3 => if b = true then A H3 else B H3 := by
  show (if true = true then A H else B H)
  rw [if_pos rfl]
  exact h
theorem same_upd {H : Hp} {p : Addr} {o : HO} (h : H p = none) : Same H (upd H p o) := fun b x e => by
  rw [upd_ne (ne_of_none e h)]
  exact e
theorem nat_of {v m : Int} (h0 : 0 ≤ v) (h1 : v < m) : ∃ j : Nat, v = (j : Int) ∧ (j : Int) < m := ⟨v.toNat, by omega, by omega⟩
/-! ### the law's own state: a pair of addresses -/
def LS (H : Hp) (a c : Addr) (n : Int) (cs : List Int) : Prop :=
  H a = some (.lst [.int n, .ref c]) ∧ H c = some (.lst (cs.map V.int)) ∧ a ≠ c ∧ 0 < cs.length ∧ cs.length ≤ 63 ∧ (∀ z ∈ cs, 0 ≤ z) ∧ 0 ≤ n
def SL (H : Hp) (a c : Addr) : Prop := ∃ n cs, LS H a c n cs
theorem SL.eq {H H' : Hp} {a c : Addr} (s : SL H a c) (ea : H' a = H a) (ec : H' c = H c) : SL H' a c := by
  obtain ⟨n, cs, h1, h2, r⟩ := s
  exact ⟨n, cs, by rw [ea]; exact h1, by rw [ec]; exact h2, r⟩
theorem SL.same {H H' : Hp} {a c : Addr} (s : SL H a c) (e : Same H H') : SL H' a c := by
  obtain ⟨n, cs, h1, h2, r⟩ := s
  exact ⟨n, cs, e _ _ h1, e _ _ h2, r⟩
theorem SL.ne {H : Hp} {a c x : Addr} (s : SL H a c) (n : H x = none) : x ≠ a ∧ x ≠ c := by
  obtain ⟨_, cs, h1, h2, r⟩ := s
  exact ⟨(ne_of_none h1 n).symm, (ne_of_none h2 n).symm⟩
theorem SL.tab {H : Hp} {a c B : Addr} (s : SL H a c) (t : TabG H B) : B ≠ a ∧ B ≠ c := by
  obtain ⟨_, cs, h1, h2, r⟩ := s
  obtain ⟨ps, e, _⟩ := t
  exact ⟨ne_of e h1 (by intro q; cases q), ne_of e h2 (by intro q; cases q)⟩
theorem tab_same {H H' : Hp} {B : Addr} (t : TabG H B) (e : Same H H') : TabG H' B := by
  obtain ⟨ps, h, r⟩ := t
  exact ⟨ps, e _ _ h, r⟩
theorem tab_eq {H H' : Hp} {B : Addr} (t : TabG H B) (e : H' B = H B) : TabG H' B := by
  obtain ⟨ps, h, r⟩ := t
  exact ⟨ps, by rw [e]; exact h, r⟩
def spState (K : PySem.W.Frag) : Sp := fun vs H Q _ => ∃ (l : Addr) (ns : List Int), vs = [.ref l] ∧ SqL K H l (ns.map V.int) ∧ ns.length ≤ 63 ∧
  ∀ (a c : Addr) (H' : Hp), H a = none → H c = none → Same H H' → SL H' a c → Q (.ref a) H'
/-- a draw: 0 .. m - 1 -/
def spTake : Sp := fun vs H Q _ => ∃ (a c : Addr) (m : Int), vs = [.ref a, .int m] ∧ SL H a c ∧ 1 ≤ m ∧ m < 1000000 ∧
  ∀ (v : Int) (H' : Hp), 0 ≤ v → v < m → (∀ b, b ≠ a → b ≠ c → H' b = H b) → SL H' a c → Q (.int v) H'
theorem at2_0 {x y : V} : atI [x, y] 0 = some x := rfl
theorem at2_1 {x y : V} : atI [x, y] 1 = some y := rfl
/-! ### as it was, but for tables of code that may have grown -/
structure Gr (H H' : Hp) : Prop where
  keep : ∀ b o, H b = some o → (∀ ps, o ≠ .tbl ps) → H' b = some o
  tab : ∀ b, TabG H b → TabG H' b
  free : ∀ b, H' b = none → H b = none
theorem Gr.refl (H : Hp) : Gr H H := ⟨fun _ _ e _ => e, fun _ t => t, fun _ n => n⟩
theorem Gr.trans {H H1 H2 : Hp} (g : Gr H H1) (h : Gr H1 H2) : Gr H H2 := ⟨fun b o e n => h.keep b o (g.keep b o e n) n, fun b t => h.tab b (g.tab b t), fun b n => g.free b (h.free b n)⟩
theorem Gr.of_same {H H' : Hp} (s : Same H H') : Gr H H' := ⟨fun b o e _ => s b o e, fun b t => tab_same t s, fun b n => by
  cases e : H b with
  | none => rfl
  | some o => rw [s b o e] at n; cases n⟩
theorem Gr.of_tab {H H' : Hp} {B : Addr} (tb : TabG H B) (t : Tabbed B H H') : Gr H H' := ⟨fun b o e n => by
  obtain ⟨ps, h, _⟩ := tb
  rw [t.2 b (fun z => by rw [z, h] at e; cases e; exact n ps rfl)]
  exact e, fun b u => by
    by_cases hb : b = B
    · rw [hb]; exact t.1
    · exact tab_eq u (t.2 b hb), fun b n => by
    by_cases hb : b = B
    · obtain ⟨ps, h, _⟩ := t.1
      rw [hb, h] at n; cases n
    · rw [← t.2 b hb]; exact n⟩
theorem Gr.upd {H H' : Hp} {p : Addr} {o : HO} (g : Gr H H') (n : H' p = none) : Gr H (upd H' p o) := g.trans (.of_same (same_upd n))
theorem Gr.lst {H H' : Hp} {b : Addr} {xs : List V} (g : Gr H H') (e : H b = some (.lst xs)) : H' b = some (.lst xs) := g.keep b _ e (fun ps z => nomatch z)
theorem Gr.tup {H H' : Hp} {b : Addr} {xs : List V} (g : Gr H H') (e : H b = some (.tup xs)) : H' b = some (.tup xs) := g.keep b _ e (fun ps z => nomatch z)
theorem Gr.SL {H H' : Hp} {a c : Addr} (g : Gr H H') (s : SL H a c) : SL H' a c := by
  obtain ⟨n, cs, h1, h2, r⟩ := s
  exact ⟨n, cs, g.lst h1, g.lst h2, r⟩
/-- a promise without a way out is one of the calm kind -/
theorem calm_of {P : Program} {w : World} {K : PySem.W.Frag} {mg : Str → Option Value} {base : Heap} {k : Nat} {f : Addr} {fd : FuncData} {ps : List Str} {sp sp' : Sp} (F : FnOk P w K mg base (L2.CX P w) k f fd ps sp)
    (h : ∀ vs H Q E, sp' vs H Q E → sp vs H Q (fun _ _ _ => False)) : FnOk P w K mg base CX0 k f fd ps sp' := by
  refine ⟨fun vs H Q E q => F.len vs H Q _ (h vs H Q E q), fun A outer s H args us vs Q E hr e0 hb r q => codeAny_mono (F.run A outer s H args us vs Q _ hr e0 hb r (h vs H Q E q)) fun res s' hs => ?_⟩
  cases res with
  | ok fl => cases fl <;> exact hs
  | error e =>
    obtain ⟨_, _, _, _, _, _, _, _, _, _, _, _, z⟩ := hs
    exact z.elim
end LW
namespace LW
open PySem PySem.Spec PyProof.Rows L2
/-- the def of the module by the name x keeps sp -/
def Cal (P : Program) (w : World) (K : PySem.W.Frag) (mg : Str → Option Value) (base : Heap) (CX : CXT) (k : Nat) (x : Str) (ps : List Str) (sp : Sp) : Prop :=
  ∃ (f : Addr) (fd : FuncData), FnOk P w K mg base CX k f fd ps sp ∧ mg x = some (.ref f) ∧ PySem.W.keepIn K (.ref f) = true ∧ L2.Binds K fd ps []
/-- the method m of the class at C keeps sp -/
def CalM (P : Program) (w : World) (K : PySem.W.Frag) (mg : Str → Option Value) (base : Heap) (CX : CXT) (k : Nat) (C : Addr) (m : Str) (ps : List Str) (sp : Sp) : Prop :=
  ∃ (f : Addr) (fd : FuncData), FnOk P w K mg base CX k f fd ps sp ∧ Cls K C ∧ Meth K C m f ∧ L2.Binds K fd ps []
/-- the class x at C is made, its __init__ keeps sp -/
def CalK (P : Program) (w : World) (K : PySem.W.Frag) (mg : Str → Option Value) (base : Heap) (CX : CXT) (k : Nat) (x : Str) (C : Addr) (ps : List Str) (sp : Sp) : Prop :=
  ∃ (f : Addr) (fd : FuncData), FnOk P w K mg base CX k f fd ps sp ∧ Mk K C f ∧ mg x = some (.ref C) ∧ L2.Binds K fd ps []
theorem Cal.of {P : Program} {w : World} {K : PySem.W.Frag} {mg : Str → Option Value} {base : Heap} {CX : CXT} {k : Nat} {x : Str} {st : Stmt} {ps : List Str} {f : Addr} {fd : FuncData} {sp : Sp} (D : DefAt K mg x st ps f fd) (F : FnOk P w K mg base CX k f fd ps sp) : Cal P w K mg base CX k x ps sp :=
  ⟨f, fd, F, D.at_, D.fn.kp, D.bd⟩
theorem Cal.calm {P : Program} {w : World} {K : PySem.W.Frag} {mg : Str → Option Value} {base : Heap} {k : Nat} {x : Str} {ps : List Str} {sp sp' : Sp} (C : Cal P w K mg base (L2.CX P w) k x ps sp) (h : ∀ vs H Q E, sp' vs H Q E → sp vs H Q (fun _ _ _ => False)) : Cal P w K mg base CX0 k x ps sp' := by
  obtain ⟨f, fd, F, a, kp, b⟩ := C
  exact ⟨f, fd, calm_of F h, a, kp, b⟩
section
variable {X : Cx} {k j : Nat} {x m : Str} {C : Addr} {ps : List Str} {sp : Sp} {e o : Expr} {es : List Expr} {t : TA} {ta : TE} {p apos pos : Pos} {W : WX}
theorem pe_cal (c : Cal X.prog X.w X.K X.mg X.base CX0 k x ps sp) (hr : Room j X.A) (ha : PA X (e :: es) t) (hg : Gl X x := by rfl) (hk : k ≤ j := by decide) (hdb : (x == ("__debug__" : Str)) = false := by decide)
    (he : starEach (e :: es) X.env = (false, eval e X.env) :: starEach es X.env := by rfl) (hpl : (backTo pos (starEach es X.env)).any (·.1) = false := by rfl) : PE X (.Call (.Name x p) (e :: es) [] pos) (tCall sp [] E0 t) := by
  obtain ⟨f, fd, F, a, kp, b⟩ := c
  exact pe_call F (hr.mono hk) hg a kp b .nil pass0 ha hdb he hpl
theorem pe_cal0 (c : Cal X.prog X.w X.K X.mg X.base CX0 k x ps sp) (hr : Room j X.A) (hg : Gl X x := by rfl) (hk : k ≤ j := by decide) (hdb : (x == ("__debug__" : Str)) = false := by decide) : PE X (.Call (.Name x p) [] [] pos) (tCall sp [] E0 tNil) := by
  obtain ⟨f, fd, F, a, kp, b⟩ := c
  exact pe_call0 F (hr.mono hk) hg a kp b .nil pass0 hdb
/-- of one that may raise -/
theorem pe_calS (c : Cal X.prog X.w X.K X.mg X.base (L2.CX X.prog X.w) k x ps sp) (hr : Room j X.A) (tk : Takes X W) (ha : PA X (e :: es) t) (hg : Gl X x := by rfl) (hk : k ≤ j := by decide) (hdb : (x == ("__debug__" : Str)) = false := by decide)
    (he : starEach (e :: es) X.env = (false, eval e X.env) :: starEach es X.env := by rfl) (hpl : (backTo pos (starEach es X.env)).any (·.1) = false := by rfl) : PE X (.Call (.Name x p) (e :: es) [] pos) (tCallS sp (WE W) t) := by
  obtain ⟨f, fd, F, a, kp, b⟩ := c
  exact pe_callS F (hr.mono hk) hg a kp b (fun σ => passAt tk σ) ha hdb he hpl
theorem pe_calM {pl : Sem Bool} (he : PE X o ta) (c : CalM X.prog X.w X.K X.mg X.base CX0 k C m ps sp) (hr : Room j X.A) (ha : PA X (e :: es) t) (hk : k ≤ j := by decide)
    (hst : starEach (e :: es) X.env = (false, eval e X.env) :: starEach es X.env := by rfl) (hpl : (backTo pos (starEach es X.env)).any (·.1) = false := by rfl)
    (ht : eval (.Call (.Attribute o m apos) (e :: es) [] pos) X.env = (do
      let ov ← eval o X.env
      standAt apos.atName
      let (f, first) ← holding [ov] (getMethod ov m pl)
      callWith pos f first (backTo pos (starEach (e :: es) X.env)) (backToKw pos (keywordEach [] X.env))) := by rfl) :
    PE X (.Call (.Attribute o m apos) (e :: es) [] pos) (tMeth C m sp [] E0 ta t) := by
  obtain ⟨f, fd, F, cl, me, b⟩ := c
  exact pe_meth he cl me F (hr.mono hk) b .nil pass0 ha hst hpl ht
theorem pe_calM0 {pl : Sem Bool} (he : PE X o ta) (c : CalM X.prog X.w X.K X.mg X.base CX0 k C m ps sp) (hr : Room j X.A) (hk : k ≤ j := by decide)
    (ht : eval (.Call (.Attribute o m apos) [] [] pos) X.env = (do
      let ov ← eval o X.env
      standAt apos.atName
      let (f, first) ← holding [ov] (getMethod ov m pl)
      callWith pos f first (backTo pos (starEach [] X.env)) (backToKw pos (keywordEach [] X.env))) := by rfl) :
    PE X (.Call (.Attribute o m apos) [] [] pos) (tMeth C m sp [] E0 ta tNil) := by
  obtain ⟨f, fd, F, cl, me, b⟩ := c
  exact pe_meth0 he cl me F (hr.mono hk) b .nil pass0 ht
theorem pe_calK (c : CalK X.prog X.w X.K X.mg X.base CX0 k x C ps sp) (hr : Room j X.A) (ha : PA X (e :: es) t) (hg : Gl X x := by rfl) (hk : k + 1 ≤ j := by decide) (hdb : (x == ("__debug__" : Str)) = false := by decide)
    (he : starEach (e :: es) X.env = (false, eval e X.env) :: starEach es X.env := by rfl) (hpl : (backTo pos (starEach es X.env)).any (·.1) = false := by rfl) : PE X (.Call (.Name x p) (e :: es) [] pos) (tMake C sp [] E0 t) := by
  obtain ⟨f, fd, F, M, a, b⟩ := c
  exact pe_make M F (hr.mono hk) hg a b .nil pass0 ha hdb he hpl
theorem pe_calK0 (c : CalK X.prog X.w X.K X.mg X.base CX0 k x C ps sp) (hr : Room j X.A) (hg : Gl X x := by rfl) (hk : k + 1 ≤ j := by decide) (hdb : (x == ("__debug__" : Str)) = false := by decide) : PE X (.Call (.Name x p) [] [] pos) (tMake C sp [] E0 tNil) := by
  obtain ⟨f, fd, F, M, a, b⟩ := c
  exact pe_make0 M F (hr.mono hk) hg a b .nil pass0 hdb
/-- a constant of the module -/
theorem pe_gstr {z : Str} (h : ∃ u, X.mg x = some (.str z u)) (hg : Gl X x := by rfl) (hd : (x == ("__debug__" : Str)) = false := by decide) : PE X (.Name x pos) (tC (.str z)) := by
  obtain ⟨u, e⟩ := h
  exact pe_glob (v := .str z) hg e ⟨u, rfl⟩ hd
theorem pe_gint {z : Int} (h : ∃ u, X.mg x = some (.int z u)) (hg : Gl X x := by rfl) (hd : (x == ("__debug__" : Str)) = false := by decide) : PE X (.Name x pos) (tC (.int z)) := by
  obtain ⟨u, e⟩ := h
  exact pe_glob (v := .int z) hg e ⟨u, rfl⟩ hd
/-- a built-in class as a value -/
theorem pe_gty {T : String} (h : X.mg x = none) (hv : bootBuiltins x = some (.type T) := by decide +kernel) (hg : Gl X x := by rfl) (hn : x ≠ "__name__" := by decide) (hd : (x == ("__debug__" : Str)) = false := by decide) : PE X (.Name x pos) (tC (.ty T)) :=
  pe_bltn (v := .ty T) hg h hv rfl hn hd
end
end LW
namespace LW
open PySem PySem.Spec PyProof.Rows L2 GxR
/-- the end of a law's row: all that the head says is at hand -/
theorem walk_gnd {l : PySem.W.OpenLaw} {n k : Nat} {q : Program} {loose : List Str} {XP : (Str → Option Value) → Heap → Prop} {YP : World → Heap → Prop} {d : DefRec} {K : Params → PySem.W.Frag} {CX : World → CXT} {x : Str}
    (hn : l.most = some n) (hn2 : n ≤ sizeLine) (hdf : d.params.defaults = []) (hr : Room k callerA) (hY : ∀ (w : World) (h : Heap), YP w h → (K w.params).In h)
    (F : ∀ (w : World) (s0 : Shared) (mg mb : Str → Option Value) (fa : Addr) (h : Heap), PySem.W.Ground q loose [] XP w s0 mg mb h → YP w h → (K w.params).In h → mg d.name = some (.ref fa) → LamX.LawAtS l w (K w.params) (CX w) k n x mg fa h)
    (hCX : ∀ (w : World) (H : Hp) (s : Shared) (e : Value) (s' : Shared), CX w [] H s (fun _ _ _ => False) e s' → False) :
    PySem.W.WalkO q loose XP YP l.row.toRowW d [] (fun f vs => PySem.call f vs) := by
  refine Att.attach_callB hn hdf ?_
  intro w s0 s1 mg mb fa o pm cd doc a vs ns G Y ho hd hcd hmg hobj hints hlen hbits hg
  have KX := hY w _ Y
  obtain ⟨fd, cs, sp, hT, nT, C, hb, hsp, hF⟩ := F w s0 mg mb fa _ G Y KX hmg
  refine LamX.law_callTs KX G.T.g G.T.b G.T.builtins G.T.nolimit hg hT nT C G.T.bmain hobj hints (Nat.le_trans hlen hn2) hr hF hb ?_ ?_
  · intro H hH hS
    exact hsp H a ns hlen hbits hH hS
  · intro H e s'
    exact hCX w H s1 e s'
/-- a function of the module as the head leaves it -/
theorem def_at {K : PySem.W.Frag} {h : Heap} {mg : Str → Option Value} {x : Str} {st : Stmt} {ps : List Str} {f : Addr} {oc : Value} {od an : Option Addr} {sl : Array (Option Value)} {kV dc pm cd ct : Value}
    (X : K.In h) (G : h.Ns mainGlobals mg) (a : PySem.W.nsIn K mainGlobals x = some (some (.ref f)))
    (l : K.lookup f = some ⟨oc, od, .func (PySem.W.fnOf x x (defArgs st) (defBody st) (defScope st) .none kV dc pm an cd ct), sl⟩)
    (c : PySem.W.codeIn K cd x = true) (k : PySem.W.keepIn K (.ref f) = true)
    (b : ∀ (kV doc pm : Value) (an : Option Addr) (cdv ct : Value) (us : List Value), us.length = ps.length → bindArgs (PySem.W.fnOf x x (defArgs st) (defBody st) (defScope st) .none kV doc pm an cdv ct) ⟨us, []⟩ = pure (ps.zip us)) :
    DefAt K mg x st ps f (PySem.W.fnOf x x (defArgs st) (defBody st) (defScope st) .none kV dc pm an cd ct) :=
  ⟨fun_mk (st := st) l c k, PySem.W.mg_of X G a, (fun_mk (st := st) l c k).binds b⟩
end LW
namespace LW
open PySem PySem.Spec PyProof.Rows L2
/-- a comprehension over pairs, whose parts make nothing -/
theorem lc_pair {J : It} {n : Nat} {G : Hp → Prop} {Y : Nat → Hp → V → Hp → Prop} {K : PySem.W.Frag} (w : Walk J n G Y) {j1 j2 : Nat} {te : TE} {vs : List Nat} {σ : L2.St} {H1 : Hp} {D : Addr} {Qd : Hp → Prop} (f : Nat → V)
    (hn : n < 16000000) (hG : ∀ H, But D H1 H → G H) (hw : ∀ x y, wipe (((wipe σ vs).set j1 (some x)).set j2 (some y)) vs = wipe σ vs)
    (hs : ∀ i x H H', i < n → But D H1 H → Y i H x H' → ∃ t u v, x = .ref t ∧ H' = H ∧ SqT K H t [u, v] ∧ ∀ Q : VK, Q (f i) H → te (((wipe σ vs).set j1 (some u)).set j2 (some v)) H Q)
    (hd : Qd (upd H1 D (.lst ((List.range n).map f)))) :
    ∃ W : Nat → Nat → Hp → Prop, (∃ m, W 0 m (upd H1 D (.lst []))) ∧ ∀ i m H, W i m H →
      (J.stop i H ∧ Qd H) ∨ (J.go i H ∧ ∃ Nx : Hp → Prop, (∀ H', Nx H' → ∃ m', m' < m ∧ W (i + 1) m' H') ∧ ∀ x H', J.yld i H x H' → gTup K 2 (gCons (gName j1) (gCons (gName j2) gNil)) x (wipe σ vs) H' fun σ2 H2 => wipe σ2 vs = wipe σ vs ∧ tYes σ2 H2 fun b H3 =>
        if b = true then te σ2 H3 fun y H4 => ∃ acc, H4 D = some (.lst acc) ∧ acc.length < sizeLine ∧ Nx (upd H4 D (.lst (acc ++ [y]))) else Nx H3) := by
  refine lc_it w (fun i H => H = upd H1 D (.lst ((List.range i).map f))) rfl (fun i H _ e => hG H (by rw [e]; exact But.upd)) ?_ (fun H e => by rw [e]; exact hd)
  rintro i x H H' hi e hy
  have b1 : But D H1 H := by rw [e]; exact But.upd
  obtain ⟨t, u, v, rfl, e2, hT, he⟩ := hs i x H H' hi b1 hy
  subst e2
  have hD : H' D = some (.lst ((List.range i).map f)) := by rw [e, upd_same]
  refine ⟨t, [u, v], rfl, hT, rfl, u, [v], rfl, v, [], rfl, rfl, hw u v, tyes (he _ ⟨_, hD, ?_, ?_⟩)⟩
  · rw [List.length_map, List.length_range]
    exact Nat.lt_trans hi (Nat.lt_trans hn (by decide))
  · rw [List.range_succ, List.map_append, e, upd_upd]
    rfl
end LW
namespace LW
open PySem PySem.Spec PyProof.Rows L2
/-- isinstance(e, c), e the exception that the suite holds, with its dict -/
def rIsD (K : PySem.W.Frag) (D a : Addr) (cls : Value) (d : Option Addr) : List V → Hp → VK → Prop := fun xs H Q => cls = .ref D ∧ ∃ (dd : Addr) (fs : List (Str × V)), d = some dd ∧ H dd = some (.xd fs) ∧
  ∃ (c : V) (cv : Value) (b : Bool), xs = [.ref a, c] ∧ (∀ u, RelV c u → u = cv) ∧ PySem.W.kitOne K (.ref D) cv = some b ∧ Q (.bl b) H
theorem call_isD {X : Cx} {a D : Addr} {oe : Obj} {cls : Value} {d : Option Addr} {pn : List (Addr × Obj)} (C : ExcC X.K D) (hz : Zc cls d oe) (hf : ∃ vs, oe.data = .fields vs) : CallR (X.suite a ((a, oe) :: pn)) (.builtin "isinstance") (rIsD X.K D a cls d) := by
  intro pins s σ H xs us Q I r h
  obtain ⟨rfl, dd, fs, rfl, hdd, c, cv, b, rfl, hcv, e, q⟩ := h
  obtain ⟨cd, hcd, _⟩ := PySem.W.any_some C.hd
  have isc : (PySem.W.clsIn X.K D).isSome = true := by rw [hcd]; rfl
  cases r with
  | cons r1 r2 =>
    cases r2 with
    | cons r3 r4 =>
      cases r4
      cases r1
      have ec := hcv _ r3
      subst ec
      obtain ⟨here, _⟩ := I.pin (a, oe) (List.mem_append_left _ List.mem_cons_self)
      obtain ⟨vs, hv⟩ := hf
      have at_d : ObjOk X.prog X.w H s.heap dd (.xd fs) := I.hok dd _ hdd
      obtain ⟨mA, hns, _⟩ := at_d
      obtain ⟨od, ho, _⟩ := lookIn_ns hns
      have inst : PySem.W.InstAt s.heap a oe D (some od) := by
        refine ⟨here, hz.1, ?_, ?_⟩
        · unfold PySem.W.notCls
          rw [hv]
        · rw [hz.2]
          exact ho
      exact PySem.W.kia_one (PySem.W.kitx_exc isc C.hg C.hk C.hs C.ha C.hn C.ht C.hm) I.kIn inst e (fun z => nomatch z) fun tk => ⟨.bl b, H, I.kept (t' := tk) fun _ _ z => z, rfl, q⟩
end LW
namespace LW
open PySem PySem.Spec PyProof.Rows L2 GxR
open TL (joinL tl tl_join join_eq spl spl_hit spl_miss spl_nil pre map_tl_inj split_spl kind_ok tl_append ext_tl)
/-! ### lines -/
def nl : Str := Str.ofString "\n"
def sp : Str := Str.ofString " "
theorem tl_nl : tl nl = [10] := by decide +kernel
theorem tl_sp : tl sp = [32] := by decide +kernel
theorem kind_nl : nl.cps.all (· < 256) = true := by decide +kernel
theorem kind_sp : sp.cps.all (· < 256) = true := by decide +kernel
theorem pre1 (c x : Nat) (r : List Nat) : pre [c] (x :: r) = decide (x = c) := by
  show (([x] : List Nat) == [c]) = decide (x = c)
  by_cases h : x = c
  · subst h; simp
  · simp [h]
theorem spl_ne (S : List Nat) : ∀ (l : List Nat) (k : Nat) (acc : List Nat), spl S k acc l ≠ []
  | [], k, acc => by rw [spl_nil]; simp
  | c :: r, 0, acc => by
    show (if pre S (c :: r) = true then acc :: spl S (S.length - 1) [] r else spl S 0 (acc ++ [c]) r) ≠ []
    split
    · simp
    · exact spl_ne S r 0 _
  | c :: r, k + 1, acc => spl_ne S r k acc
theorem spl_len (c : Nat) : ∀ (l acc : List Nat), (spl [c] 0 acc l).length ≤ l.length + 1
  | [], acc => by rw [spl_nil]; simp
  | x :: r, acc => by
    by_cases h : pre [c] (x :: r) = true
    · rw [spl_hit h]
      have := spl_len c r []
      simp only [List.length_cons, List.length_nil] at this ⊢
      show (spl [c] 0 [] r).length + 1 ≤ _
      omega
    · rw [spl_miss (eq_false_of_ne_true h)]
      have := spl_len c r (acc ++ [x])
      simp only [List.length_cons]
      omega
theorem spl_part (c : Nat) : ∀ (l acc : List Nat), ∀ p ∈ spl [c] 0 acc l, p.length ≤ acc.length + l.length
  | [], acc, p, h => by
    rw [spl_nil] at h
    rw [List.mem_singleton.mp h]
    simp
  | x :: r, acc, p, h => by
    by_cases e : pre [c] (x :: r) = true
    · rw [spl_hit e] at h
      rcases List.mem_cons.mp h with h | h
      · rw [h]; omega
      · have := spl_part c r [] p h
        simp only [List.length_cons, List.length_nil] at this ⊢
        omega
    · rw [spl_miss (eq_false_of_ne_true e)] at h
      have := spl_part c r (acc ++ [x]) p h
      simp only [List.length_append, List.length_cons, List.length_nil] at this ⊢
      omega
/-- without the sign: one part -/
theorem spl_no (c : Nat) : ∀ (l acc : List Nat), c ∉ l → spl [c] 0 acc l = [acc ++ l]
  | [], acc, _ => by rw [spl_nil]; simp
  | x :: r, acc, h => by
    have hx : pre [c] (x :: r) = false := by rw [pre1]; exact decide_eq_false fun e => h (by rw [e]; exact List.mem_cons_self)
    rw [spl_miss hx, spl_no c r (acc ++ [x]) fun m => h (List.mem_cons_of_mem _ m)]
    simp
/-- at the first sign -/
theorem spl_at1 (c : Nat) : ∀ (a acc b : List Nat), c ∉ a → spl [c] 0 acc (a ++ c :: b) = (acc ++ a) :: spl [c] 0 [] b
  | [], acc, b, _ => by
    have hx : pre [c] (c :: b) = true := by rw [pre1]; exact decide_eq_true rfl
    rw [List.nil_append, spl_hit hx, List.append_nil]
    rfl
  | x :: r, acc, b, h => by
    have hx : pre [c] (x :: (r ++ c :: b)) = false := by rw [pre1]; exact decide_eq_false fun e => h (by rw [e]; exact List.mem_cons_self)
    rw [List.cons_append, spl_miss hx, spl_at1 c r (acc ++ [x]) b fun m => h (List.mem_cons_of_mem _ m)]
    simp
def lns (t : Str) : List Str := Txt.split t nl
def wds (l : Str) : List Str := Txt.split l sp
theorem lns_tl (t : Str) : (lns t).map tl = spl [10] 0 [] (tl t) := by
  unfold lns
  rw [split_spl _ nl (by rw [tl_nl]; simp) (kind_ok kind_nl), tl_nl]
theorem wds_tl (t : Str) : (wds t).map tl = spl [32] 0 [] (tl t) := by
  unfold wds
  rw [split_spl _ sp (by rw [tl_sp]; simp) (kind_ok kind_sp), tl_sp]
theorem lns_ne (t : Str) : lns t ≠ [] := by
  intro h
  have := lns_tl t
  rw [h] at this
  exact spl_ne _ _ _ _ this.symm
theorem wds_ne (t : Str) : wds t ≠ [] := by
  intro h
  have := wds_tl t
  rw [h] at this
  exact spl_ne _ _ _ _ this.symm
theorem lns_len (t : Str) : (lns t).length ≤ t.length + 1 := by
  have h := congrArg List.length (lns_tl t)
  rw [List.length_map] at h
  have := spl_len 10 (tl t) []
  rw [h, TL.len_tl]
  exact this
theorem lns_mem {t l : Str} (h : l ∈ lns t) : l.length ≤ t.length := by
  have m : tl l ∈ spl [10] 0 [] (tl t) := by rw [← lns_tl]; exact List.mem_map_of_mem h
  have := spl_part 10 (tl t) [] _ m
  rw [TL.len_tl, TL.len_tl]
  simpa using this
theorem wds_mem {t l : Str} (h : l ∈ wds t) : l.length ≤ t.length := by
  have m : tl l ∈ spl [32] 0 [] (tl t) := by rw [← wds_tl]; exact List.mem_map_of_mem h
  have := spl_part 32 (tl t) [] _ m
  rw [TL.len_tl, TL.len_tl]
  simpa using this
/-- a line as a name and an address -/
def nam (l : Str) : Str := (Txt.partition l sp).1
def adr (l : Str) : Str := (Txt.partition l sp).2.2
theorem split_at (x : List Nat) (h : 32 ∈ x) : ∃ a b, x = a ++ 32 :: b ∧ 32 ∉ a := by
  induction x with
  | nil => simp at h
  | cons c r ih =>
    by_cases e : c = 32
    · exact ⟨[], r, by rw [e]; rfl, by simp⟩
    · have hr : 32 ∈ r := by
        rcases List.mem_cons.mp h with h | h
        · exact absurd h.symm e
        · exact h
      obtain ⟨a, b, h1, h2⟩ := ih hr
      exact ⟨c :: a, b, by rw [h1]; rfl, fun m => by
        rcases List.mem_cons.mp m with m | m
        · exact e m.symm
        · exact h2 m⟩
theorem addr_no {t : Str} (h : isAddr t = true) : 32 ∉ tl t ∧ 10 ∉ tl t ∧ t.length = 16 := by
  unfold isAddr at h
  rw [Bool.and_eq_true] at h
  have key : ∀ c ∈ tl t, c ∈ hexDigits := fun c hc => of_decide_eq_true (List.all_eq_true.mp h.2 c hc)
  exact ⟨fun m => absurd (key _ m) (by decide), fun m => absurd (key _ m) (by decide), of_decide_eq_true h.1⟩
theorem addr_empty : isAddr Str.empty = false := by decide +kernel
/-- two words are the name and the address; otherwise the address is none -/
theorem words_of (l : Str) : (wds l = [nam l, adr l]) ∨ ((wds l).length ≠ 2 ∧ isAddr (adr l) = false) := by
  by_cases h : 32 ∈ tl l
  · obtain ⟨a, b, e, ha⟩ := split_at _ h
    have el : l = (⟨a.toArray⟩ : Str) ++ sp ++ (⟨b.toArray⟩ : Str) := by
      apply ext_tl
      rw [tl_append, tl_append, tl_sp]
      show _ = (a ++ [32]) ++ b
      rw [e]
      simp
    have ep : Txt.partition l sp = (⟨a.toArray⟩, sp, ⟨b.toArray⟩) := by
      rw [el]
      exact TL.partition_app tl_sp (by show 32 ∉ a; exact ha)
    have en : nam l = ⟨a.toArray⟩ := by unfold nam; rw [ep]
    have ea : adr l = ⟨b.toArray⟩ := by unfold adr; rw [ep]
    have ew := wds_tl l
    rw [e, spl_at1 32 a [] b ha] at ew
    by_cases hb : 32 ∈ b
    · right
      obtain ⟨a2, b2, e2, ha2⟩ := split_at _ hb
      constructor
      · intro hl
        have hl2 := congrArg List.length ew
        rw [List.length_map, hl, e2, spl_at1 32 a2 [] b2 ha2] at hl2
        simp only [List.length_cons] at hl2
        have := spl_ne [32] b2 0 []
        cases hs : spl [32] 0 [] b2 with
        | nil => exact this hs
        | cons _ _ => rw [hs] at hl2; simp at hl2
      · rw [ea]
        cases hh : isAddr (⟨b.toArray⟩ : Str) with
        | false => rfl
        | true => exact absurd (show 32 ∈ tl (⟨b.toArray⟩ : Str) from hb) (addr_no hh).1
    · left
      rw [spl_no 32 b [] hb] at ew
      refine map_tl_inj ?_
      rw [ew, en, ea]
      simp [tl]
  · right
    have ep : Txt.partition l sp = (l, Str.empty, Str.empty) := TL.partition_none tl_sp h
    have ew := wds_tl l
    rw [spl_no 32 _ [] h] at ew
    refine ⟨fun hl => ?_, ?_⟩
    · have := congrArg List.length ew
      rw [List.length_map, hl] at this
      simp at this
    · unfold adr
      rw [ep]
      exact addr_empty
/-! ### faults -/
def letters : List Nat := [97, 98, 99, 100, 101, 102, 103, 104, 105, 106, 107, 108, 109, 110, 111, 112, 113, 114, 115, 116, 117, 118, 119, 120, 121, 122]
theorem letters_eq : (Str.ofString "abcdefghijklmnopqrstuvwxyz").cps.toList = letters := by decide +kernel
def isPlat (t : Str) : Bool := (decide (1 ≤ t.length) && decide (t.length ≤ 10)) && t.cps.toList.all fun c => decide (c ∈ letters)
def word (b : Bool) : Str := if b then "bundle" else "image"
def mid (ls : List Str) : List Str := (ls.drop 1).dropLast
theorem mid_len (ls : List Str) : (mid ls).length = ls.length - 2 := by
  unfold mid
  rw [List.length_dropLast, List.length_drop]
  omega
/-- line i (from 0) of those between is not as it must be -/
def bad (b : Bool) (ms : List Str) (i : Nat) : Bool :=
  if b then decide (nam (ms.getD i "") ∈ (ms.take i).map nam) || !isPlat (nam (ms.getD i "")) || !isAddr (adr (ms.getD i "")) else !isAddr (ms.getD i "")
def behN (w : Str) (ls : List Str) : Option Nat :=
  if ls.head? ≠ some w then some 0 else if ls.getLast? ≠ some ("" : Str) then some (ls.length - 1) else if 52 < ls.length then some 51 else none
def faultN (b : Bool) (ls : List Str) : Option Nat :=
  match behN (word b) ls with
  | some k => some k
  | none => if b = true ∧ ls.length = 2 then some 1 else ((List.range (ls.length - 2)).find? (bad b (mid ls))).map (· + 1)
theorem find_hit {p : Nat → Bool} {n i : Nat} (hi : i < n) (h1 : ∀ j, j < i → p j = false) (h2 : p i = true) : (List.range n).find? p = some i := by
  rw [List.find?_range_eq_some]
  exact ⟨h2, List.mem_range.mpr hi, fun j hj => by rw [h1 j hj]; rfl⟩
theorem find_miss {p : Nat → Bool} {n : Nat} (h1 : ∀ j, j < n → p j = false) : (List.range n).find? p = none := by
  rw [List.find?_eq_none]
  intro j hj
  rw [h1 j (List.mem_range.mp hj)]
  exact Bool.false_ne_true
end LW
namespace LW
open PySem PySem.Spec PyProof.Rows L2 GxR
open TL (joinL tl tl_join join_eq tl_append ext_tl)
theorem tl_empty : tl (Str.ofString "") = [] := by decide +kernel
theorem joinL_nil : ∀ l : List (List Nat), joinL [] l = l.flatten
  | [] => rfl
  | [p] => by simp [joinL]
  | p :: q :: r => by
    show p ++ ([] ++ joinL [] (q :: r)) = _
    rw [joinL_nil (q :: r)]
    simp
theorem joinL_end (c : Nat) : ∀ l : List (List Nat), joinL [c] (l ++ [[]]) = (l.map (· ++ [c])).flatten
  | [] => by simp [joinL]
  | [p] => by
    show p ++ ([c] ++ joinL [c] [[]]) = _
    simp [joinL]
  | p :: q :: r => by
    show p ++ ([c] ++ joinL [c] ((q :: r) ++ [[]])) = _
    rw [joinL_end c (q :: r)]
    simp
/-- one line of a text -/
def lin (l : Str) : Str := Str.empty ++ l ++ nl
theorem tl_lin (l : Str) : tl (lin l) = tl l ++ [10] := by
  unfold lin
  rw [tl_append, tl_append, tl_nl]
  rfl
theorem lin_len (l : Str) : (lin l).length = l.length + 1 := by
  rw [TL.len_tl, TL.len_tl, tl_lin]
  simp
def textOf (ls : List Str) : Str := Txt.join (Str.ofString "") (ls.map lin)
theorem textOf_tl (ls : List Str) : tl (textOf ls) = ((ls.map tl).map (· ++ [10])).flatten := by
  unfold textOf
  rw [join_eq, tl_join, tl_empty, joinL_nil, List.map_map, List.map_map]
  congr 1
  apply List.map_congr_left
  intro l _
  exact tl_lin l
theorem textOf_nl (ls : List Str) : textOf ls = Txt.join nl (ls ++ [("" : Str)]) := by
  apply ext_tl
  rw [textOf_tl, join_eq, tl_join, tl_nl, List.map_append, ← joinL_end]
  rfl
theorem lns_textOf {ls : List Str} (h : ∀ l ∈ ls, 10 ∉ tl l) : lns (textOf ls) = ls ++ [("" : Str)] := by
  unfold lns
  rw [textOf_nl]
  refine TL.split_join (s := 10) (S := []) tl_nl kind_nl (by simp) fun p hp => ?_
  rcases List.mem_append.mp hp with hp | hp
  · exact h p hp
  · rw [List.mem_singleton.mp hp]
    decide +kernel
theorem textOf_len : ∀ ls : List Str, (textOf ls).length = (ls.map fun l => l.length + 1).sum := by
  intro ls
  rw [TL.len_tl, textOf_tl, List.length_flatten, List.map_map, List.map_map]
  congr 1
  apply List.map_congr_left
  intro l _
  simp [TL.len_tl]
theorem sum_le {α : Type} (f : α → Nat) (m : Nat) : ∀ l : List α, (∀ x ∈ l, f x ≤ m) → (l.map f).sum ≤ l.length * m
  | [], _ => by simp
  | x :: r, h => by
    have := sum_le f m r fun y hy => h y (List.mem_cons_of_mem _ hy)
    have h1 := h x List.mem_cons_self
    simp only [List.map_cons, List.sum_cons, List.length_cons, Nat.succ_mul]
    omega
theorem mid_text (w : Str) (ls : List Str) : mid (w :: ls ++ [("" : Str)]) = ls := by
  unfold mid
  simp
theorem beh_text (w : Str) (ls : List Str) : behN w (w :: ls ++ [("" : Str)]) = if 50 < ls.length then some 51 else none := by
  unfold behN
  have e1 : (w :: ls ++ [("" : Str)]).head? = some w := rfl
  have e2 : (w :: ls ++ [("" : Str)]).getLast? = some ("" : Str) := by rw [List.getLast?_append]; rfl
  rw [if_neg (by rw [e1]; simp), if_neg (by rw [e2]; simp)]
  have e3 : (w :: ls ++ [("" : Str)]).length = ls.length + 2 := by simp
  rw [e3]
  by_cases h : 50 < ls.length
  · rw [if_pos h, if_pos (by omega)]
  · rw [if_neg h, if_neg (by omega)]
/-- the text of an image -/
theorem fault_image {ls : List Str} (h : ∀ l ∈ ls, isAddr l = true) (hl : ls.length ≤ 51) : faultN false (word false :: ls ++ [("" : Str)]) = if ls.length = 51 then some 51 else none := by
  unfold faultN
  rw [beh_text, mid_text]
  by_cases e : 50 < ls.length
  · rw [if_pos e]
    show some 51 = _
    rw [if_pos (by omega)]
  · rw [if_neg e, if_neg (show ¬ ls.length = 51 by omega)]
    have e3 : (word false :: ls ++ [("" : Str)]).length - 2 = ls.length := by simp
    rw [e3]
    simp only [Bool.false_eq_true, false_and, if_false]
    rw [find_miss (p := bad false ls) fun j hj => ?_]
    · rfl
    · have hg : ls.getD j "" = ls[j] := by rw [List.getD_eq_getElem?_getD, List.getElem?_eq_getElem hj]; rfl
      show (!isAddr (ls.getD j "")) = false
      rw [hg, h _ (List.getElem_mem hj)]
      rfl
theorem plat_no {t : Str} (h : isPlat t = true) : 32 ∉ tl t ∧ 10 ∉ tl t ∧ 1 ≤ t.length ∧ t.length ≤ 10 := by
  unfold isPlat at h
  rw [Bool.and_eq_true, Bool.and_eq_true] at h
  have key : ∀ c ∈ tl t, c ∈ letters := fun c hc => of_decide_eq_true (List.all_eq_true.mp h.2 c hc)
  exact ⟨fun m => absurd (key _ m) (by decide), fun m => absurd (key _ m) (by decide), of_decide_eq_true h.1.1, of_decide_eq_true h.1.2⟩
/-- a line of a bundle -/
def ent (p : Str × Str) : Str := Str.empty ++ p.1 ++ sp ++ p.2
theorem ent_tl (p : Str × Str) : tl (ent p) = tl p.1 ++ 32 :: tl p.2 := by
  unfold ent
  rw [tl_append, tl_append, tl_append, tl_sp]
  show ([] ++ tl p.1 ++ [32]) ++ tl p.2 = _
  simp
theorem ent_part {p : Str × Str} (h : 32 ∉ tl p.1) : nam (ent p) = p.1 ∧ adr (ent p) = p.2 := by
  have e : ent p = p.1 ++ sp ++ p.2 := by
    apply ext_tl
    rw [ent_tl, tl_append, tl_append, tl_sp]
    simp
  have ep : Txt.partition (ent p) sp = (p.1, sp, p.2) := by
    rw [e]
    exact TL.partition_app tl_sp h
  unfold nam adr
  rw [ep]
  exact ⟨rfl, rfl⟩
theorem fault_bundle {es : List (Str × Str)} (h : ∀ p ∈ es, isPlat p.1 = true ∧ isAddr p.2 = true) (hd : (es.map (·.1)).Nodup) (h1 : 1 ≤ es.length) (hl : es.length ≤ 50) : faultN true (word true :: es.map ent ++ [("" : Str)]) = none := by
  unfold faultN
  rw [beh_text, mid_text, if_neg (show ¬ 50 < (es.map ent).length by rw [List.length_map]; omega)]
  have e3 : (word true :: es.map ent ++ [("" : Str)]).length = es.length + 2 := by simp
  rw [e3]
  show (if true = true ∧ es.length + 2 = 2 then some 1 else _) = _
  rw [if_neg (by omega), find_miss (p := bad true (es.map ent)) fun j hj => ?_]
  · rfl
  · have hj' : j < es.length := by omega
    have hg : (es.map ent).getD j "" = ent es[j] := by rw [List.getD_eq_getElem?_getD, List.getElem?_map, List.getElem?_eq_getElem hj']; rfl
    have hm := h _ (List.getElem_mem hj')
    have pt := ent_part (p := es[j]) (plat_no hm.1).1
    unfold bad
    rw [if_pos rfl, hg, pt.1, pt.2, hm.1, hm.2]
    have nm : ∀ q ∈ es, nam (ent q) = q.1 := fun q hq => (ent_part (plat_no (h q hq).1).1).1
    have e4 : ((es.map ent).take j).map nam = (es.map (·.1)).take j := by
      rw [List.map_take, List.map_map]
      congr 1
      exact List.map_congr_left nm
    rw [e4]
    have e5 : es[j].1 ∉ (es.map (·.1)).take j := by
      intro m
      obtain ⟨i, hi, e⟩ := List.getElem_of_mem m
      rw [List.length_take, List.length_map] at hi
      rw [List.getElem_take] at e
      have : (es.map (·.1))[i]'(by rw [List.length_map]; omega) = (es.map (·.1))[j]'(by rw [List.length_map]; omega) := by rw [e, List.getElem_map]
      have := (List.getElem_inj hd).mp this
      omega
    rw [decide_eq_false e5]
    rfl
end LW
/-! Sets of texts: made, added to, sorted. -/
namespace LW
open PySem PySem.Spec PyProof.Rows L2
/-- the text that a row of a set's table holds -/
def rowTxt (e : Int × Value) : Str := match e.2 with | .str x _ => x | _ => Str.empty
/-- a row that holds a text under its own hash -/
def RowT (P : Program) (w : World) (e : Int × Value) : Prop := ∃ x tk, e.2 = Value.str x tk ∧ e.1 = (PySem.strKind P w).hash x
/-- the set of texts at a: S tells the members, n how many; its table can be walked -/
def SetT (P : Program) (w : World) (h : Heap) (a : Addr) (S : Str → Bool) (n : Nat) : Prop :=
  ∃ o rows ep t, h.get? a = some o ∧ o.ExactSet ∧ o.data = .set rows ep t ∧ (∀ e ∈ rows.toList, RowT P w e) ∧ (rows.toList.map rowTxt).Nodup ∧ (∀ k, S k = true ↔ k ∈ rows.toList.map rowTxt) ∧
    rows.size < scanBound ∧ t.fits rows.size = true ∧ rows.size = n ∧ Ris t.place.toList ∧ (w.params.followText "set-order" = true ∨ t.led = true)
section
variable {P : Program} {w : World} {h h' : Heap} {a : Addr} {S : Str → Bool} {n : Nat}
theorem SetT.keep (R : SetT P w h a S n) (k : ∀ o, h.get? a = some o → h'.get? a = some o) : SetT P w h' a S n := let ⟨o, rows, ep, t, ho, r⟩ := R; ⟨o, rows, ep, t, k o ho, r⟩
theorem rowT_elems {l : List (Int × Value)} (g : ∀ e ∈ l, RowT P w e) : ElemsOf (PySem.strKind P w) l := fun e he => by
  have ⟨x, tk, q1, q2⟩ := g e he
  refine ⟨⟨x, ?_, q2⟩, ?_⟩
  · rw [q1]; exact strKind_is P w x tk
  · rw [q1] <;> rfl
theorem rowT_is {e : Int × Value} (g : RowT P w e) (k : Str) : (PySem.strKind P w).is k e.2 = true ↔ rowTxt e = k := by
  obtain ⟨x, tk, q1, _⟩ := g
  have e1 : rowTxt e = x := by unfold rowTxt; rw [q1]
  rw [e1, q1]
  constructor
  · intro q
    exact ((PySem.strKind P w).inj _ _ _ q (strKind_is P w x tk)).symm
  · rintro rfl
    exact strKind_is P w x tk
theorem rowT_mem {l : List (Int × Value)} (g : ∀ e ∈ l, RowT P w e) (k : Str) : k ∈ l.map rowTxt ↔ ∃ e ∈ l, (PySem.strKind P w).is k e.2 = true :=
  ⟨fun m => let ⟨e, he, q⟩ := List.mem_map.mp m; ⟨e, he, (rowT_is (g e he) k).2 q⟩, fun ⟨e, he, q⟩ => List.mem_map.mpr ⟨e, he, (rowT_is (g e he) k).1 q⟩⟩
theorem SetT.of (R : SetT P w h a S n) : h.SetOf (PySem.strKind P w) a S n := by
  obtain ⟨o, rows, ep, t, h1, h2, h3, g, _, m, b, f, z, _⟩ := R
  exact ⟨o, rows, ep, t, h1, h2, h3, rowT_elems g, fun k => (m k).trans (rowT_mem g k), b, f, z⟩
theorem setT_fresh (P : Program) (w : World) {h : Heap} {b : Addr} (e : h.get? b = some { cls := .type "set", dict := none, data := .set #[] 0 (.fresh 0 0 (!w.params.followText "set-order")) }) : SetT P w h b (fun _ => false) 0 := by
  refine ⟨_, #[], 0, _, e, ⟨rfl, rfl, rfl⟩, rfl, ?_, ?_, ?_, by decide, by rfl, rfl, List.Pairwise.nil, ?_⟩
  · intro e he; simp at he
  · simp
  · intro k; simp
  · show _ ∨ (!w.params.followText "set-order") = true
    cases w.params.followText "set-order" <;> simp
end
section
variable {P : Program} {w : World} {A : Around} {E : Value → Shared → Prop} {s : Shared} {a : Addr} {S : Str → Bool} {n : Nat}
theorem laidT {h : Heap} {a : Addr} {o : Obj} {r1 r2 : Array (Int × Value)} {ep : Nat} {t1 t2 : SetTable} (ho : h.get? a = some o) (hd : o.data = .set r1 ep t1) :
    (h.update a (Obj.putSet r2 t2)).get? a = some { o with data := .set r2 (ep + 1) t2 } := store_at ho hd
theorem giveWay {b : Bool} {s1 : Shared} {Q : Unit → Shared → Prop} (q : Q () s1) : wpAny (model P w) A (match b with | true => rule "set.scan.the-table-gave-way" | false => pure ()) Q E s1 := by
  cases b
  · exact wpAny_pure q
  · exact wpAny_rule q
/-- what follows the new row: the table is stored, and laid anew where it is too full -/
theorem setT_tail {g : Bool → Sem Unit} (hg : ∀ (b : Bool) (s1 : Shared) (Q' : Unit → Shared → Prop), Q' () s1 → wpAny (model P w) A (g b) Q' E s1) {o : Obj} {rows : Array (Int × Value)} {ep : Nat} {t : SetTable}
    (ho : s.heap.get? a = some o) (hx : o.ExactSet) (hd : o.data = .set rows ep t) {r1 : Array (Int × Value)} {t2 : SetTable} {S' : Str → Bool}
    (new : ∀ {h'' : Heap} {o' : Obj} {r2 : Array (Int × Value)} {e2 : Nat} {t3 : SetTable}, h''.get? a = some o' → o'.ExactSet → o'.data = .set r2 e2 t3 → r2.toList.Perm r1.toList → t3.fits r2.size = true → Ris t3.place.toList → t3.led = t2.led → SetT P w h'' a S' r1.size)
    (hb : r1.size < scanBound) (hf : t2.fits r1.size = true) (hr : Ris t2.place.toList) {wasDummy : Bool} {R : Option Bool → Shared → Prop}
    (hR : ∀ h'', Heap.SameBut a s.heap h'' → SetT P w h'' a S' r1.size → R (some true) { s with heap := h'' }) :
    wpAny (model P w) A (do
        storeSet a r1 t2
        if (!wasDummy && t2.tooFull) = true then do
            g (relayAll t2 r1 (SetTable.grown r1.size)).2.2
            storeSet a (relayAll t2 r1 (SetTable.grown r1.size)).1 (relayAll t2 r1 (SetTable.grown r1.size)).2.1
            pure (some true)
          else pure (some true)) R E s := by
  have ho1 := laidT (r2 := r1) (t2 := t2) ho hd
  have sb := Heap.SameBut.update s.heap a (Obj.putSet r1 t2)
  refine wpAny_bind (wpAny_storeSet_of ho hd ?_ (fits_of_scanBound hb))
  by_cases full : (!wasDummy && t2.tooFull) = true
  · rw [if_pos full]
    have p := relayAll_perm t2 r1 (SetTable.grown r1.size)
    have q1 := relayAll_fits t2 r1 (SetTable.grown r1.size)
    have q2 := relayAll_ris t2 r1 (SetTable.grown r1.size)
    have q3 := relayAll_led t2 r1 (SetTable.grown r1.size)
    revert p q1 q2 q3
    generalize relayAll t2 r1 (SetTable.grown r1.size) = Z
    obtain ⟨r2, t3, gv⟩ := Z
    intro p q1 q2 q3
    have z2 : r2.size = r1.size := by have := p.length_eq; simpa using this
    refine wpAny_bind (hg _ _ _ (wpAny_bind (wpAny_storeSet_of ho1 rfl ?_ (fits_of_scanBound (by show r2.size < scanBound; rw [z2]; exact hb)))))
    exact wpAny_pure (hR _ (sb.trans (Heap.SameBut.update _ a _)) (new (laidT ho1 rfl) hx rfl p q1 q2 q3))
  · rw [if_neg full]
    exact wpAny_pure (hR _ sb (new ho1 hx rfl (List.Perm.refl _) hf hr rfl))
/-- a text that is not there comes in, or one that is there stays -/
theorem setT_put {k : Str} {tk : Tok} {Q : Bool → Shared → Prop} (R : SetT P w s.heap a S n) (room : n + 1 < scanBound)
    (hQ : ∀ h'', Heap.SameBut a s.heap h'' → SetT P w h'' a (fun j => S j || decide (j = k)) (if S k = true then n else n + 1) → Q (!S k) { s with heap := h'' }) :
    wpAny (model P w) A (setAddHashed a (.str k tk) ((PySem.strKind P w).hash k)) Q E s := by
  obtain ⟨o, rows, ep, t, ho, hx, hd, g, nd, m, b, f, z, ris, led⟩ := R
  have kk : (PySem.strKind P w).is k (.str k tk) = true := strKind_is P w k tk
  have sc : (Value.str k tk).scannable = true := rfl
  have el := rowT_elems (P := P) (w := w) g
  unfold setAddHashed setAddHashedIn
  refine wpAny_holding (wpAny_bind (wpAny_setState_of ho hd f ?_))
  dsimp only
  rw [byScan_of sc b el]
  simp only [↓reduceIte]
  unfold setAddByScan
  refine wpAny_bind (wpAny_bind (wpAny_rule (wpAny_bind (wpAny_setScan_of kk ho hd f el ?_))))
  cases fi : List.findIdx? (fun e => (PySem.strKind P w).is k e.2) rows.toList with
  | some j =>
    dsimp only
    obtain ⟨hj, pj, _⟩ := List.findIdx?_eq_some_iff_getElem.mp fi
    have there : S k = true := (m k).2 ((rowT_mem g k).2 ⟨_, List.getElem_mem hj, pj⟩)
    have fin := hQ s.heap (Heap.SameBut.refl a s.heap) ⟨o, rows, ep, t, ho, hx, hd, g, nd, fun i => ?_, b, f, by rw [if_pos there]; exact z, ris, led⟩
    · rw [there] at fin
      exact wpAny_pure (wpAny_pure fin)
    · rw [Bool.or_eq_true, decide_eq_true_eq, ← m i]
      constructor
      · rintro (q | q)
        · exact q
        · rw [q]; exact there
      · exact .inl
  | none =>
    dsimp only
    have out : k ∉ rows.toList.map rowTxt := fun q => by
      obtain ⟨e, he, q1⟩ := (rowT_mem (P := P) (w := w) g k).1 q
      exact absurd q1 (by rw [List.findIdx?_eq_none_iff.mp fi e he]; exact Bool.false_ne_true)
    have gone : S k = false := Bool.eq_false_iff.mpr fun q => out ((m k).1 q)
    have p0 := layNew_perm t rows ((PySem.strKind P w).hash k) (.str k tk)
    have f0 := layNew_fits t rows ((PySem.strKind P w).hash k) (.str k tk)
    have r0 := layNew_ris t rows ((PySem.strKind P w).hash k) (.str k tk) ris
    have l0 := layNew_led t rows ((PySem.strKind P w).hash k) (.str k tk)
    revert p0 f0 r0 l0
    generalize layNew t rows ((PySem.strKind P w).hash k) (.str k tk) = Z
    obtain ⟨r1, t1, dum, gv⟩ := Z
    intro p0 f0 r0 l0
    dsimp only at p0 f0 r0 l0 ⊢
    have p1 : r1.toList.Perm (((PySem.strKind P w).hash k, Value.str k tk) :: rows.toList) := by
      refine p0.trans ?_
      rw [Array.toList_push]
      exact List.perm_append_singleton _ _
    have p2 : (r1.toList.map rowTxt).Perm (k :: rows.toList.map rowTxt) := p1.map rowTxt
    have z1 : r1.size = n + 1 := by
      have := p1.length_eq
      simp only [Array.length_toList, List.length_cons] at this
      omega
    have new : ∀ {tt : SetTable}, tt.led = t1.led → ∀ {h'' : Heap} {o' : Obj} {r2 : Array (Int × Value)} {e2 : Nat} {t3 : SetTable}, h''.get? a = some o' → o'.ExactSet → o'.data = .set r2 e2 t3 → r2.toList.Perm r1.toList → t3.fits r2.size = true → Ris t3.place.toList → t3.led = tt.led →
        SetT P w h'' a (fun j => S j || decide (j = k)) r1.size := fun {tt} hl {h'' o' r2 e2 t3} u1 u2 u3 u4 u5 u6 u7 => by
      have v2 := u4.map rowTxt
      have sz : r2.size = r1.size := by have := u4.length_eq; simpa using this
      refine ⟨o', r2, e2, t3, u1, u2, u3, fun e he => ?_, ?_, fun i => ?_, by rw [sz, z1]; exact room, u5, sz, u6, led.imp id fun q => by rw [u7, hl, l0]; exact q⟩
      · rcases List.mem_cons.mp ((u4.trans p1).mem_iff.mp he) with q | q
        · exact ⟨k, tk, by rw [q], by rw [q]⟩
        · exact g e q
      · exact (v2.trans p2).nodup_iff.mpr (List.nodup_cons.mpr ⟨out, nd⟩)
      · rw [(v2.trans p2).mem_iff, List.mem_cons, ← m i, Bool.or_eq_true, decide_eq_true_eq]
        exact Or.comm
    have fin : ∀ h'', Heap.SameBut a s.heap h'' → SetT P w h'' a (fun j => S j || decide (j = k)) r1.size → Q true { s with heap := h'' } := fun h'' sb r => by
      have q := hQ h'' sb
      rw [gone, if_neg Bool.false_ne_true, ← z1] at q
      exact q r
    refine wpAny_bind (giveWay ?_)
    split
    · refine wpAny_bind ?_
      rw [hashByValue_scannable 8 sc]
      refine wpAny_pure (setT_tail (fun b1 s1 Q' q => giveWay q) ho hx hd (new ?_) (by rw [z1]; exact room) ?_ ?_ fun h'' sb r => ?_)
      · first | rfl | (split <;> rfl)
      · first | exact f0 | (split <;> first | exact f0 | exact SetTable.fits_plain_off f0)
      · first | exact r0 | (split <;> exact r0)
      · exact wpAny_pure (fin h'' sb r)
    · refine wpAny_bind (wpAny_pure ?_)
      simp only [↓reduceIte]
      exact setT_tail (fun b1 s1 Q' q => giveWay q) ho hx hd (new rfl) (by rw [z1]; exact room) f0 r0 fun h'' sb r => wpAny_pure (fin h'' sb r)
/-- found.add(x) -/
theorem setT_add {k : Str} {tk : Tok} {Q : Value → Shared → Prop} (R : SetT P w s.heap a S n) (room : n + 1 < scanBound)
    (hQ : ∀ h'', Heap.SameBut a s.heap h'' → SetT P w h'' a (fun j => S j || decide (j = k)) (if S k = true then n else n + 1) → Q .none { s with heap := h'', toks := s.toks + 1 }) :
    wpAny (model P w) A (call (.builtin "set.add") [.ref a, .str k tk]) Q E s := by
  refine wpAny_call_entry F.slot_set_add R.of.typeIs F.entry_set_add ?_ (F.args_set_add_2 _ _)
  unfold Builtin.«set.add» Builtin.Frozenset.oneOther
  simp only [List.isEmpty_nil, bind_assoc]
  unfold Builtin.Frozenset.addrOf setAdd
  refine wpAny_bind (wpAny_pure ?_)
  refine wpAny_bind (wpAny_pure ?_)
  refine wpAny_bind (wpAny_holding (wpAny_bind ((PySem.strKind P w).pyHash (strKind_is P w k tk) ?_)))
  refine setT_put (s := { s with toks := s.toks + 1 }) R room fun h'' sb r => ?_
  exact wpAny_pure ⟨_, rfl, hQ h'' sb r⟩
end
end LW
namespace LW
open PySem PySem.Spec PyProof.Rows L2
theorem SetT.alike {P : Program} {w : World} {h : Heap} {a : Addr} {S S' : Str → Bool} {n : Nat} (R : SetT P w h a S n) (e : ∀ k, S' k = S k) : SetT P w h a S' n := by
  rw [show S' = S from funext e]; exact R
section
variable {P : Program} {w : World} {A : Around} {R : Result → Shared → Prop} {I : Addr} {fp wr : List Addr} {G : Array GenState → Array GenState → Prop} {n : Nat} {Pv : Nat → Value → Prop} {St : Nat → Shared → Prop}
/-- the members of xs, one after another, into the set at b -/
theorem fill_set (W : WalksS P w A.in1 I fp wr G n Pv St) (b : Addr) (nb : b ∉ fp) (xs : List Str) (lx : xs.length = n) (room : n < scanBound) (val : ∀ i v, Pv i v → ∃ t, v = .str (xs.getD i Str.empty) t) :
    ∀ (m i : Nat) (s : Shared), n - i = m → i ≤ n → St i s → (∃ c, c ≤ i ∧ SetT P w s.heap b (fun k => decide (k ∈ xs.take i)) c) →
      (∀ s', Moved (b :: wr) G s s' → (∃ c, c ≤ n ∧ SetT P w s'.heap b (fun k => decide (k ∈ xs)) c) → R (.ok (.ret .none)) s') →
      codeAny (model P w) A (.builtin "set.update.loop" ⟨[.ref b, .ref I], []⟩) R s := by
  have nw : b ∉ wr := fun h => nb (W.sub _ h)
  have up : ∀ y ∈ wr, y ∈ b :: wr := fun y hy => List.mem_cons_of_mem _ hy
  intro m
  induction m with
  | zero =>
    intro i s e hi st hs fin
    obtain rfl : i = n := by omega
    refine codeAny_builtin PyProof.Rows.F.entry_set_update_loop ?_
    rw [Around.under_plainId PyProof.Rows.F.plain_set_update_loop _]
    refine wpAny_bind (m := pyNext (.ref I)) (W.done s _ _ st fun s1 mv => ?_)
    refine wpAny_pure (fin s1 (mv.mono up) ?_)
    obtain ⟨c, hc, r⟩ := hs
    refine ⟨c, hc, (r.keep fun o ho => mv.heap b _ nw ho).alike fun k => ?_⟩
    rw [← lx, List.take_length]
  | succ m ih =>
    intro i s e hi st hs fin
    have lt : i < n := by omega
    refine codeAny_builtin PyProof.Rows.F.entry_set_update_loop ?_
    rw [Around.under_plainId PyProof.Rows.F.plain_set_update_loop _]
    refine wpAny_bind (m := pyNext (.ref I)) (W.item i s _ _ lt st fun v s1 pv st1 mv => ?_)
    obtain ⟨t, rfl⟩ := val i v pv
    obtain ⟨c, hc, r⟩ := hs
    have r1 := r.keep (h' := s1.heap) fun o ho => mv.heap b _ nw ho
    refine wpAny_bind (m := holding [Value.str (xs.getD i Str.empty) t] (setAdd b (.str (xs.getD i Str.empty) t))) (wpAny_holding ?_)
    unfold setAdd
    refine wpAny_holding (wpAny_bind ((PySem.strKind P w).pyHash (strKind_is P w _ t) ?_))
    refine setT_put (s := { s1 with toks := s1.toks + 1 }) r1 (by omega) fun h2 sb r2 => ?_
    have xi : xs[i]? = some (xs.getD i Str.empty) := by
      rw [List.getD_eq_getElem?_getD, List.getElem?_eq_getElem (by omega)]; rfl
    have tk : xs.take (i + 1) = xs.take i ++ [xs.getD i Str.empty] := by
      rw [List.take_add_one, xi]; rfl
    refine wpAny_pure ⟨plainId_quiet PyProof.Rows.F.plain_set_update_loop _, ih (i + 1) _ (by omega) lt (W.frame _ s1 _ _ st1 (Nat.le_succ _) fun y hy o ho => ?_) ⟨_, ?_, r2.alike fun k => ?_⟩ fun s2 mv2 r3 => ?_⟩
    · rw [sb.2 y fun q => nb (q ▸ hy)]; exact ho
    · split <;> omega
    · rw [tk, ← Bool.decide_or]
      exact decide_eq_decide.mpr (by rw [List.mem_append, List.mem_singleton])
    · refine fin s2 (Moved.trans W.gtrans ((mv.mono up).then_heap (Nat.le_succ _) fun y o hy ho => ?_) mv2) r3
      rw [sb.2 y fun q => hy (by rw [q]; exact List.mem_cons_self)]; exact ho
end
section
variable {P : Program} {w : World} {A : Around} {E : Value → Shared → Prop} {s : Shared}
/-- set(xs), a list of texts -/
theorem set_of_list {l : Addr} {its : Array Value} {xs : List Str} {Q : Value → Shared → Prop} (hh : A.handled = none) (hl : s.heap.IsList l its) (hi : PyProof.Rows.StrsAre its.toList xs) (room : xs.length < scanBound)
    (q : ∀ (h' : Heap) (tk : Nat), (∃ c, c ≤ xs.length ∧ SetT P w h' s.heap.objs.size (fun k => decide (k ∈ xs)) c) → (∀ b o, b < s.heap.objs.size → s.heap.get? b = some o → h'.get? b = some o) → Q (.ref s.heap.objs.size) { s with heap := h', toks := tk }) :
    wpAny (model P w) A (call (.type "set") [.ref l]) Q E s := by
  obtain ⟨_, _, m0⟩ := PySem.F.called_set.mro
  have m1 := PySem.F.called_set.made
  have m2 := PySem.F.called_set.sub
  have m3 := PySem.F.called_set.notType
  have m4 := PySem.F.called_set.canCreate
  have m5 := PySem.F.typeCall_set_1 (.ref l)
  have hlt : l < s.heap.objs.size := by obtain ⟨o, ho, _⟩ := hl; exact Heap.lt_size ho
  have hz : its.size = xs.length := by rw [← Array.length_toList, ← StrsAre.len_eq hi]
  refine wpAny_call (codeAny_of_tree ?_)
  show wpAny _ _ (callAny (.type "set") _) _ _ _
  refine wpAny_pure ⟨Code.quiet_builtin _ (by decide +kernel), codeAny_builtin PySem.F.entry_type_call ?_⟩
  rw [Around.under_plain (weight_type_call_type "set" [.ref l] []) rfl]
  repeat (any_goals (first | assumption | wp_step))
  let s1 : Shared := { s with heap := s.heap.push { cls := .type "set", dict := none, data := .set #[] 0 (.fresh 0 0 (!w.params.followText "set-order")) } }
  refine codeAny_mono (code_set_led1 (.ref l) (E := E) (Q₁ := fun v s' => v = .ref s.heap.objs.size ∧ s' = s1) ⟨rfl, rfl⟩) fun r s' hr => ?_
  match r, hr with
  | .error _, hr => exact hr
  | .ok (.ret obj), hr =>
    obtain ⟨rfl, rfl⟩ := hr
    have b0 : s1.heap.get? s.heap.objs.size = some { cls := .type "set", dict := none, data := .set #[] 0 (.fresh 0 0 (!w.params.followText "set-order")) } := Heap.get?_push_size _ rfl
    have b1 : s1.TypeIs (.ref s.heap.objs.size) "set" := ⟨_, b0, rfl⟩
    have b2 := PySem.F.called_set.init.lookup
    have b3 := PySem.F.called_set.init.bind (.ref s.heap.objs.size)
    repeat (any_goals (first | assumption | wp_step))
    refine codeAny_mono (codeAny_call_builtin (R := wants (fun v s' => v = .none ∧ Q (.ref s.heap.objs.size) s') E) PySem.F.called_set.init.plain PySem.F.entry_set_init (check_set_init_1 b1 ?_)) fun r2 s2 hr2 => ?_
    · obtain ⟨⟨c0, d0, data0, sl0⟩, o1, o2, nl, o3⟩ := id hl
      simp only at o2 o3
      subst o2; subst o3
      have o4 : s1.heap.get? l = some { cls := .type "list", dict := d0, data := .seq its nl, slots := sl0 } := Heap.get?_push_of_some _ o1
      have k1 := PySem.F.sub_list_set
      have k2 := PySem.F.sub_list_frozenset
      have k3 : (Value.type "list" == Value.type "dict") = false := by decide
      have l1 : s1.heap.IsList l its := ⟨_, o4, rfl, nl, rfl⟩
      unfold Builtin.«set.__init__» noKeywords Builtin.Frozenset.updateFrom
      generalize hPI : pyIter = PI
      wp_walk
      subst hPI
      refine wpAny_pyIter_list l1 (wpAny_bind (wpAny_runValue ?_))
      have z1 : s1.heap.objs.size = s.heap.objs.size + 1 := Heap.size_push ..
      have nI : l ≠ s1.heap.objs.size := Nat.ne_of_lt (by rw [z1]; exact Nat.lt_succ_of_lt hlt)
      have nf : s.heap.objs.size ∉ [s1.heap.objs.size, l] := by
        intro m
        rcases List.mem_cons.mp m with m | m
        · have m' : s.heap.objs.size = s1.heap.objs.size := m
          omega
        · have m' : s.heap.objs.size = l := List.mem_singleton.mp m
          exact absurd hlt (by rw [← m']; exact Nat.lt_irrefl _)
      have h3 : A.in1.in1.in1.handled = none := by simp [hh]
      have vl : ∀ (i : Nat) (v : Value), its[i]? = some v → ∃ t, v = .str (xs.getD i Str.empty) t := fun i v e => SS.strs_at hi i v (by rw [Array.getElem?_toList]; exact e)
      refine fill_set ((Walks.list h3 _ l nI its).toS) s.heap.objs.size nf xs hz.symm (by rw [hz]; exact room) vl (its.size - 0) 0 _ rfl (Nat.zero_le _) ⟨⟨_, Heap.get?_push_size _ rfl, rfl, rfl⟩, l1.push _⟩ ⟨0, Nat.le_refl _, ?_⟩ ?_
      · exact (setT_fresh P w (Heap.get?_push_of_some _ b0)).alike fun k => by simp
      · rintro ⟨h', g', d', tk', os'⟩ mv r
        obtain rfl : g' = s.gens := mv.gens
        obtain rfl : d' = s.drawn := mv.drawn
        obtain rfl : os' = s.os := mv.os
        show wpAny _ _ _ _ _ _
        refine wpAny_pure ?_
        show wpAny _ _ (ret Value.none) _ _ _
        refine wpAny_pure ⟨rfl, q h' tk' (by rw [hz] at r; exact r) fun b o hb e => mv.heap b o (fun m => ?_) (Heap.get?_push_of_some _ (Heap.get?_push_of_some _ e))⟩
        rcases List.mem_cons.mp m with m | m
        · have m' : b = s.heap.objs.size := m
          omega
        · have m' : b = s1.heap.objs.size := List.mem_singleton.mp m
          omega
    · match r2, hr2 with
      | .error _, hr2 => exact hr2
      | .ok (.ret v), hr2 =>
        obtain ⟨rfl, q2⟩ := hr2
        repeat (any_goals (first | assumption | wp_step))
      | .ok .next, hr2 => exact hr2.elim
      | .ok .brk, hr2 => exact hr2.elim
      | .ok .cont, hr2 => exact hr2.elim
  | .ok .next, hr => exact hr.elim
  | .ok .brk, hr => exact hr.elim
  | .ok .cont, hr => exact hr.elim
end
end LW
namespace LW
open PySem PySem.Spec PyProof.Rows L2
section
variable {P : Program} {w : World} {A : Around} {E : Value → Shared → Prop} {s : Shared}
/-- the texts that the values hold -/
theorem strs_are : ∀ (l : List Value), (∀ v ∈ l, ∃ x tk, v = Value.str x tk) → StrsAre l (l.map fun v => rowTxt (0, v))
  | [], _ => .nil
  | v :: l, h => by
    obtain ⟨x, tk, rfl⟩ := h v List.mem_cons_self
    exact .cons x tk (strs_are l fun u m => h u (List.mem_cons_of_mem _ m))
/-- sorted(found), a set of texts -/
theorem sorted_setT {a : Addr} {S : Str → Bool} {n : Nat} {Q : Value → Shared → Prop} (R : SetT P w s.heap a S n) (hh : A.handled = none)
    (q : ∀ s' p (out : Array Value) (c : Nat) (xs : List Str), (∀ b o, s.heap.get? b = some o → s'.heap.get? b = some o) → s'.gens = s.gens → s'.os = s.os → s.heap.objs.size ≤ p →
      s'.heap.get? p = some (seqObj "list" out c) → StrsAre out.toList xs → sortedS xs = true → xs.Nodup → (∀ k, k ∈ xs ↔ S k = true) → xs.length = n → Q (.ref p) s') :
    wpAny (model P w) A (call (.builtin "sorted") [.ref a]) Q E s := by
  obtain ⟨o, rows, ep, t, ho, hx, hd, g, nd, m, b, f, z, ris, led⟩ := R
  have fits := fits_of_scanBound b
  refine Calls.call_function_entry kind_sorted plain_sorted entry_sorted (args_sorted1 _) ?_
  unfold Builtin.«sorted»
  refine wpAny_bind (m := checkCount "sorted" 1 1 _) (wpAny_pure (wpAny_bind (collect_set (A := A.in1) hh ⟨o, ho, hx.1, hd⟩ f b ris led fun s1 vs keep big e1 e2 pm => ?_)))
  have lv : vs.length = n := by have := pm.length_eq; simp only [List.length_map, Array.length_toList] at this; omega
  have all : ∀ v ∈ vs, ∃ x tk, v = Value.str x tk := fun v hv => by
    obtain ⟨e, he, rfl⟩ := List.mem_map.mp (pm.mem_iff.mp hv)
    obtain ⟨x, tk, u, _⟩ := g e he
    exact ⟨x, tk, u⟩
  have sa := strs_are vs all
  have pk : (vs.map fun v => rowTxt (0, v)).Perm (rows.toList.map rowTxt) := by
    have r := pm.map fun v => rowTxt (0, v)
    rw [List.map_map] at r
    exact r
  refine wpAny_bind (wpAny_newList ?_ (by rw [lv]; omega))
  have ob : (s1.heap.push (seqObj "list" vs.toArray 0)).get? s1.heap.objs.size = some (seqObj "list" vs.toArray 0) := Heap.get?_push_size _ rfl
  refine wpAny_bind (wpAny_holding (wpAny_call_entry slot_list_sort ⟨_, ob, rfl⟩ entry_list_sort
    (list_sort_treeKAny strKind_oneLt ob sa.keysOf (fun v1 v2 rest e => keyKind_strs (by rw [← e]; exact sa)) (by rw [lv]; omega) fun st p1 p2 => ⟨_, rfl, ?_⟩) (args_list_sort _)))
  obtain ⟨ys, y1, y2, y3⟩ := sorted_out_str sa p1 p2
  obtain ⟨c, hc⟩ := sortedHeap_at (vs := vs) (out := (arrOf st).map (·.2)) ob
  have py := y2.trans pk
  refine wpAny_pure ⟨_, rfl, q _ s1.heap.objs.size _ c ys (fun b' u e => ?_) e1 e2 big hc y1 y3 (py.nodup_iff.mpr nd) (fun k => by rw [py.mem_iff, ← m k]) (by have := py.length_eq; simp only [List.length_map, Array.length_toList] at this; omega)⟩
  have k1 := keep b' u e
  have lt := Heap.lt_size k1
  rw [show ({ s1 with heap := sortedHeap (s1.heap.push (seqObj "list" vs.toArray 0)) s1.heap.objs.size vs ((arrOf st).map (·.2)) } : Shared).heap = sortedHeap (s1.heap.push (seqObj "list" vs.toArray 0)) s1.heap.objs.size vs ((arrOf st).map (·.2)) from rfl,
    sortedHeap_old (Nat.ne_of_lt lt) (by rw [size_push']; exact Nat.lt_succ_of_lt lt)]
  exact Heap.get?_push_of_some _ k1
end
/-- the set of texts at a, as a tracked thing -/
def SetTO (P : Program) (w : World) (a : Addr) (S : Str → Bool) (n : Nat) : HO := .ext fun h => SetT P w h a S n
theorem setTO_new {w : World} {P : Program} {H : Hp} {h : Heap} {a : Addr} {S : Str → Bool} {n : Nat} (R : SetT P w h a S n) : ObjOk P w H h a (SetTO P w a S n) :=
  ⟨R, let ⟨o, _, _, _, ho, _⟩ := R; ⟨o, ho⟩, fun _ _ r k => r.keep k⟩
section
variable {X : Cx}
theorem setTO_get {pins : List (Addr × Obj)} {σ : L2.St} {H : Hp} {s : Shared} {a : Addr} {S : Str → Bool} {n : Nat} (I : Inv X pins σ H s) (ha : H a = some (SetTO X.prog X.w a S n)) : SetT X.prog X.w s.heap a S n := (I.hok a _ ha).1
/-- set.add of a text -/
theorem addT_ok {pins : List (Addr × Obj)} {σ : L2.St} {H : Hp} {s : Shared} {E : Value → Shared → Prop} {D : Addr} {S : Str → Bool} {n : Nat} {y : Str} {tk : Tok} {Q : Value → Shared → Prop} (I : Inv X pins σ H s) (hD : H D = some (SetTO X.prog X.w D S n)) (room : n + 1 < scanBound)
    (q : ∀ s', Inv X pins σ (L2.upd H D (SetTO X.prog X.w D (fun j => S j || decide (j = y)) (if S y = true then n else n + 1))) s' → Q .none s') : wpAny (model X.prog X.w) X.A (call (.builtin "set.add") [.ref D, .str y tk]) Q E s :=
  setT_add (setTO_get I hD) room fun h' sb r => q _ (I.write (e := D) (t' := s.toks + 1) (by rw [hD]; trivial) (.inl rfl) (fun b u hb hu => (sb.2 b hb).trans hu) (let ⟨o, _, _, _, ho, _⟩ := r; ⟨o, ho⟩) (setTO_new r))
/-- set(xs), a list of texts -/
def rSetOfS (K : PySem.W.Frag) (P : Program) (w : World) : List V → Hp → VK → Prop := fun xs H Q => ∃ (l : Addr) (zs : List Str), xs = [V.ref l] ∧ SqL K H l (zs.map V.str) ∧ zs.length < scanBound ∧
  ∀ p c, c ≤ zs.length → H p = none → Q (.ref p) (L2.upd H p (SetTO P w p (fun k => decide (k ∈ zs)) c))
theorem cr_setOfS (hc : X.calm = true) : CallR X (.type "set") (rSetOfS X.K X.prog X.w) := by
  intro pins s σ H xs us Q I r h
  obtain ⟨l, zs, rfl, hs, room, q⟩ := h
  obtain ⟨its, rv, hl, _⟩ := I.list hs
  rw [Vals.ref1 r]
  refine set_of_list (I.ok.hd hc) hl.isList (by simpa using rv.strs) room fun h' tk ⟨c, hc', R⟩ keep => ?_
  exact ⟨.ref _, _, I.laid (t' := tk) (fun b o e => keep b o (Heap.lt_size e) e) (Nat.le_refl _) (setTO_new R), rfl, q _ c hc' (I.hok.fresh (Nat.le_refl _))⟩
/-- sorted(found), a set of texts -/
def rSortedT (P : Program) (w : World) : List V → Hp → VK → Prop := fun vs H Q => ∃ (a : Addr) (S : Str → Bool) (n : Nat), vs = [V.ref a] ∧ H a = some (SetTO P w a S n) ∧
  ∀ (xs : List Str) (p : Addr), sortedS xs = true → xs.Nodup → (∀ k, k ∈ xs ↔ S k = true) → xs.length = n → H p = none → Q (.ref p) (L2.upd H p (.lst (xs.map V.str)))
theorem cr_sortedT (hc : X.calm = true) : CallR X (.builtin "sorted") (rSortedT X.prog X.w) := by
  intro pins s σ H vs us Q I r h
  obtain ⟨a, S, n, rfl, ha, q⟩ := h
  have R := setTO_get I ha
  have small : n ≤ sizeLine := by
    obtain ⟨_, rows, _, _, _, _, _, _, _, _, b, _, z, _⟩ := R
    rw [← z]; exact fits_of_scanBound b
  rw [Vals.ref1 r]
  refine sorted_setT R (I.ok.hd hc) fun s' p out c xs k g o hp hg hi h1 h2 h3 h4 => ?_
  have nx : H p = none := I.hok.fresh hp
  obtain ⟨hp', gens', drawn', toks', os'⟩ := s'
  obtain rfl : os' = s.os := o
  refine ⟨.ref p, _, ?_, rfl, q xs p h1 h2 h3 h4 nx⟩
  exact I.call (ch := []) (Un.laid k hp nx) (I.hok.laid k hp ⟨by rw [List.length_map, h4]; exact small, out.toList, c, vals_of_strs hi, hg⟩) (by rw [show gens' = s.gens from g]; exact I.bare) (fun _ z => nomatch z)
/-- sorted(xs), a list of texts of any length -/
def rSortedL (K : PySem.W.Frag) : List V → Hp → VK → Prop := fun vs H Q => ∃ (a : Addr) (xs : List Str), vs = [V.ref a] ∧ SqL K H a (xs.map V.str) ∧
  ∀ (ys : List Str) (p : Addr), ys.Perm xs → sortedS ys = true → H p = none → Q (.ref p) (L2.upd H p (.lst (ys.map V.str)))
theorem cr_sortedL : CallR X (.builtin "sorted") (rSortedL X.K) := by
  intro pins s σ H vs us Q I r h
  obtain ⟨a, xs, rfl, hs, q⟩ := h
  obtain ⟨its, rv, hl, hz⟩ := I.list hs
  rw [Vals.ref1 r]
  refine sorted_strsAny hl.isList rv.strs (by rw [← rv.length]; exact hz) fun out ys h1 h2 h3 => ?_
  obtain ⟨ep, he⟩ := PyProof.Rows.sortedAll_at s.heap its out
  rw [List.length_map] at hz
  exact ⟨.ref _, _, I.laid (t' := s.toks) (fun _ _ => PyProof.Rows.sortedAll_old) (Nat.le_succ _) (show ObjOk X.prog X.w _ _ _ (.lst (ys.map V.str)) from ⟨by rw [List.length_map, h2.length_eq]; exact hz, out.toList, ep, vals_of_strs h1, he⟩), rfl, q ys _ h2 h3 (I.hok.fresh (Nat.le_succ _))⟩
end
/-! ### two sorted lists with the same members -/
theorem sorted_pw : ∀ (p : Str) (l : List Str), risingS p l = true → (∀ y ∈ l, ¬ y.cps.toList < p.cps.toList) ∧ l.Pairwise fun x y => ¬ y.cps.toList < x.cps.toList := by
  intro p l
  induction l generalizing p with
  | nil => exact fun _ => ⟨(fun _ h => nomatch h), List.Pairwise.nil⟩
  | cons x r ih =>
    intro h
    unfold risingS at h
    rw [Bool.and_eq_true, Bool.not_eq_true', ltCps_eq] at h
    obtain ⟨h1, h2⟩ := h
    have h1 := of_decide_eq_false h1
    obtain ⟨i1, i2⟩ := ih x h2
    refine ⟨fun y hy => ?_, List.pairwise_cons.mpr ⟨i1, i2⟩⟩
    rcases List.mem_cons.mp hy with rfl | hy
    · exact h1
    · exact fun z => h1 (List.lt_of_le_of_lt (List.not_lt.mp (i1 y hy)) z)
theorem sorted_pairwise {l : List Str} (h : sortedS l = true) : l.Pairwise fun x y => ¬ y.cps.toList < x.cps.toList := by
  cases l with
  | nil => exact List.Pairwise.nil
  | cons x r => exact List.pairwise_cons.mpr (sorted_pw x r h)
theorem str_cps {x y : Str} (h : x.cps.toList = y.cps.toList) : x = y := by
  cases x; cases y
  exact congrArg Str.mk (Array.toList_inj.mp h)
/-- sorted lists that are rearrangements of one another are equal -/
theorem sorted_perm {l m : List Str} (h1 : sortedS l = true) (h2 : sortedS m = true) (p : l.Perm m) : l = m :=
  p.eq_of_pairwise (fun a b _ _ q1 q2 => str_cps (List.le_antisymm (List.not_lt.mp q1) (List.not_lt.mp q2))) (sorted_pairwise h1) (sorted_pairwise h2)
theorem sorted_mem {l m : List Str} (h1 : sortedS l = true) (h2 : sortedS m = true) (n1 : l.Nodup) (n2 : m.Nodup) (e : ∀ k, k ∈ l ↔ k ∈ m) : l = m :=
  sorted_perm h1 h2 ((List.perm_ext_iff_of_nodup n1 n2).mpr e)
theorem sorted_ints {l m : List Int} (h1 : l.Pairwise (· ≤ ·)) (h2 : m.Pairwise (· ≤ ·)) (p : l.Perm m) : l = m :=
  p.eq_of_pairwise (fun a b _ _ q1 q2 => Int.le_antisymm q1 q2) h1 h2
end LW
/-! {elt for tg in iter if .. for tg1 in iter1 if ..}: a set of texts over two clauses. -/
namespace LW
open PySem PySem.Spec PyProof.Rows L2 PpSet
abbrev sc2 (elt t0 i0 t1 i1 : Expr) (f0 f1 : List Expr) (scope : Scope) (pos : Pos) : Expr := .SetComp elt [⟨t0, i0, f0, 0⟩, ⟨t1, i1, f1, 0⟩] scope pos
theorem sc2_turn0 (elt t0 i0 t1 i1 : Expr) (f0 f1 : List Expr) (scope : Scope) (pos : Pos) (it acc : Value) (env : Env) : compTurn (sc2 elt t0 i0 t1 i1 f0 f1 scope pos) 0 it acc env = (do
      standAt i0.pos
      match ← pyNext it with
      | none => pure (.done .next)
      | some u =>
        letOwnedTupleGo t0 it u
        assign t0 env u
        let mut go := true
        for test in f0 do
          if go then go ← isTrue test env (eval test env)
        if go then
          let src ← eval i1 env
          standAt i1.pos
          let src ← foldedSetIterable i1 env src
          let _ ← runOwn (.compStart (sc2 elt t0 i0 t1 i1 f0 f1 scope pos) 1 (← holding [src] (pyIter src)) acc env) env
        again (.compLoop (sc2 elt t0 i0 t1 i1 f0 f1 scope pos) 0 it acc env)) := by rfl
theorem sc2_turn1 (elt t0 i0 t1 i1 : Expr) (f0 f1 : List Expr) (scope : Scope) (pos : Pos) (it acc : Value) (env : Env) : compTurn (sc2 elt t0 i0 t1 i1 f0 f1 scope pos) 1 it acc env = (do
      standAt i1.pos
      match ← pyNext it with
      | none => pure (.done .next)
      | some u =>
        letOwnedTupleGo t1 it u
        assign t1 env u
        let mut go := true
        for test in f1 do
          if go then go ← isTrue test env (eval test env)
        if go then
          (do let new ← eval elt env; standAt elt.pos; let _ ← call (.builtin "set.add") [acc, new])
        again (.compLoop (sc2 elt t0 i0 t1 i1 f0 f1 scope pos) 1 it acc env)) := by rfl
section
variable {P : Program} {w : World} {A : Around} {R : Result → Shared → Prop} {s : Shared} {elt t0 i0 t1 i1 : Expr} {f0 f1 : List Expr} {scope : Scope} {pos : Pos} {it acc : Value} {env : Env}
/-- what is wanted where something is raised in the block -/
abbrev Up (P : Program) (w : World) (A : Around) (env : Env) (R : Result → Shared → Prop) : Value → Shared → Prop := notedBy (model P w) A env fun e s' => R (.error e) s'
/-- the tests of a clause -/
abbrev tests (fs : List Expr) (env : Env) : Sem Bool := forIn fs true fun c r => if r = true then do let ok ← isTrue c env (eval c env); pure (ForInStep.yield ok) else pure (ForInStep.yield r)
theorem sc2_loop0 (plain : ∀ x, foldedSetIterable i1 env x = pure x) (Go : Nat → Shared → Prop) (turn : ∀ n s, Go n s → wpAny (model P w) A (pyNext it) (fun r s1 => match r with
      | none => R (.ok .next) s1
      | some u => wpAny (model P w) A (letOwnedTupleGo t0 it u) (fun _ s2 => wpAny (model P w) A (assign t0 env u) (fun _ s3 => wpAny (model P w) A (tests f0 env) (fun go s4 =>
            if go = true then wpAny (model P w) A (eval i1 env) (fun src s5 => wpAny (model P w) A (pyIter src) (fun inner s6 =>
              codeAny (model P w) A (.compStart (sc2 elt t0 i0 t1 i1 f0 f1 scope pos) 1 inner acc env) (fun r s7 => match r with
                | .ok _ => ∃ m, m < n ∧ Go m s7
                | .error _ => False) s6) (Up P w A env R) s5) (Up P w A env R) s4
            else ∃ m, m < n ∧ Go m s4) (Up P w A env R) s3) (Up P w A env R) s2) (Up P w A env R) s1) (Up P w A env R) s) (n : Nat) (h : Go n s) :
    codeAny (model P w) A (.compLoop (sc2 elt t0 i0 t1 i1 f0 f1 scope pos) 0 it acc env) R s := by
  refine codeAny_loop rfl Go (fun n s g => ?_) n h
  show wpAny _ A ((compTurn (sc2 elt t0 i0 t1 i1 f0 f1 scope pos) 0 it acc env).onRaise (fun x => do noteFrame x env; theTreesLotGoes x)) _ _ s
  have up : ∀ (e : Value) (s' : Shared), Up P w A env R e s' → Up P w A env R e s' := fun _ _ z => z
  refine wpAny_noted ?_
  rw [sc2_turn0]
  refine wpAny_bind (wpAny_standAt (wpAny_bind (wpAny_mono (turn n s g) (fun r s1 h1 => ?_) up)))
  match r, h1 with
  | none, h1 => exact wpAny_pure h1
  | some u, h1 =>
    refine wpAny_bind (wpAny_mono h1 (fun _ s2 h2 => wpAny_bind (wpAny_mono h2 (fun _ s3 h3 => wpAny_bind (wpAny_mono h3 (fun go s4 h4 => ?_) up)) up)) up)
    match go, h4 with
    | false, h4 => exact wpAny_pure ⟨rfl, h4⟩
    | true, h4 =>
      refine wpAny_bind (wpAny_mono h4 (fun src s5 h5 => wpAny_bind (wpAny_standAt (wpAny_bind (wpAny_of_eq (plain src) (wpAny_bind (wpAny_holding (wpAny_mono h5 (fun inner s6 h6 => ?_) up))))))) up)
      refine wpAny_bind (wpAny_runOwn ?_)
      rw [Around.mark_none]
      refine codeAny_mono h6 fun r s7 h7 => ?_
      match r, h7 with
      | .ok _, h7 => first | exact wpAny_pure ⟨rfl, h7⟩ | exact wpAny_bind (wpAny_pure (wpAny_pure ⟨rfl, h7⟩))
      | .error _, h7 => exact h7.elim
theorem sc2_loop1 (Go : Nat → Shared → Prop) (turn : ∀ n s, Go n s → wpAny (model P w) A (pyNext it) (fun r s1 => match r with
      | none => R (.ok .next) s1
      | some u => wpAny (model P w) A (letOwnedTupleGo t1 it u) (fun _ s2 => wpAny (model P w) A (assign t1 env u) (fun _ s3 => wpAny (model P w) A (tests f1 env) (fun go s4 =>
            if go = true then wpAny (model P w) A (eval elt env) (fun new s5 => wpAny (model P w) A (call (.builtin "set.add") [acc, new]) (fun _ s6 => ∃ m, m < n ∧ Go m s6) (Up P w A env R) s5) (Up P w A env R) s4
            else ∃ m, m < n ∧ Go m s4) (Up P w A env R) s3) (Up P w A env R) s2) (Up P w A env R) s1) (Up P w A env R) s) (n : Nat) (h : Go n s) :
    codeAny (model P w) A (.compLoop (sc2 elt t0 i0 t1 i1 f0 f1 scope pos) 1 it acc env) R s := by
  refine codeAny_loop rfl Go (fun n s g => ?_) n h
  show wpAny _ A ((compTurn (sc2 elt t0 i0 t1 i1 f0 f1 scope pos) 1 it acc env).onRaise (fun x => do noteFrame x env; theTreesLotGoes x)) _ _ s
  have up : ∀ (e : Value) (s' : Shared), Up P w A env R e s' → Up P w A env R e s' := fun _ _ z => z
  refine wpAny_noted ?_
  rw [sc2_turn1]
  refine wpAny_bind (wpAny_standAt (wpAny_bind (wpAny_mono (turn n s g) (fun r s1 h1 => ?_) up)))
  match r, h1 with
  | none, h1 => exact wpAny_pure h1
  | some u, h1 =>
    refine wpAny_bind (wpAny_mono h1 (fun _ s2 h2 => wpAny_bind (wpAny_mono h2 (fun _ s3 h3 => wpAny_bind (wpAny_mono h3 (fun go s4 h4 => ?_) up)) up)) up)
    match go, h4 with
    | false, h4 => exact wpAny_pure ⟨rfl, h4⟩
    | true, h4 =>
      refine wpAny_bind (wpAny_bind (wpAny_mono h4 (fun new s5 h5 => wpAny_bind (wpAny_standAt (wpAny_bind (wpAny_mono h5 (fun _ s6 h6 => ?_) up)))) up))
      exact wpAny_pure (wpAny_pure ⟨rfl, h6⟩)
/-- a clause's start -/
theorem sc2_start (k : Nat) (hk : k = 0 ∨ k = 1) (h0 : codeAny (model P w) A (.compLoop (sc2 elt t0 i0 t1 i1 f0 f1 scope pos) k it acc env) R s)
    (h : wpAny (model P w) A (pyIter it) (fun it' s' => codeAny (model P w) A (.compLoop (sc2 elt t0 i0 t1 i1 f0 f1 scope pos) k it' acc env) R s') (Up P w A env R) s) :
    codeAny (model P w) A (.compStart (sc2 elt t0 i0 t1 i1 f0 f1 scope pos) k it acc env) R s := by
  refine codeAny_of_tree ?_
  show wpAny _ _ ((compStart (sc2 elt t0 i0 t1 i1 f0 f1 scope pos) k it acc env).onRaise (fun x => do noteFrame x env; standAt theWindowsPlace)) _ _ s
  refine wpAny_notedAt ?_
  unfold compStart
  rcases hk with rfl | rfl
  all_goals
    show wpAny _ _ (ask >>= _) _ _ s
    refine wpAny_bind (wpAny_askSetting (wpAny_ite ?_))
    split
    · first | exact wpAny_bind (wpAny_pure (wpAny_pure (And.intro rfl h0))) | exact wpAny_pure (And.intro rfl h0)
    · refine wpAny_bind (wpAny_rule ?_)
      show wpAny _ _ (standAt _ >>= _) _ _ s
      exact wpAny_bind (wpAny_standAt (wpAny_bind (wpAny_mono h (fun it' s' z => wpAny_pure (And.intro rfl z)) fun _ _ x => x)))
end
end LW
namespace LW
open PySem PySem.Spec PyProof.Rows L2 PpSet
/-- behind the first clause's target and tests the second source is walked; where its walk ends, Nx; D: the new set -/
def tScT2 (P : Program) (w : World) (wi : TI) (g : TG) (tt : TT) (wi1 : TI) (g1 : TG) (tt1 : TT) (te : TE) (vs vs1 : List Nat) : TE := fun σ H Q => wi σ H fun J H1 => ∀ D, H1 D = none →
  ∃ W : Nat → Nat → Hp → Prop, (∃ m, W 0 m (L2.upd H1 D (SetTO P w D (fun _ => false) 0))) ∧ ∀ i m H, W i m H →
    (J.stop i H ∧ Q (.ref D) H) ∨ (J.go i H ∧ ∃ Nx : Hp → Prop, (∀ H', Nx H' → ∃ m', m' < m ∧ W (i + 1) m' H') ∧ ∀ x H', J.yld i H x H' → g x (wipe σ vs) H' fun σ2 H2 => wipe σ2 vs = wipe σ vs ∧ tt σ2 H2 fun b H3 =>
      if b = true then wi1 σ2 H3 fun J1 H4 => ∃ W1 : Nat → Nat → Hp → Prop, (∃ m, W1 0 m H4) ∧ ∀ j k H, W1 j k H →
        (J1.stop j H ∧ Nx H) ∨ (J1.go j H ∧ ∃ Ny : Hp → Prop, (∀ H', Ny H' → ∃ k', k' < k ∧ W1 (j + 1) k' H') ∧ ∀ x H', J1.yld j H x H' → g1 x (wipe σ2 vs1) H' fun σ3 H5 => wipe σ3 vs1 = wipe σ2 vs1 ∧ tt1 σ3 H5 fun b H6 =>
          if b = true then te σ3 H6 fun y H7 => ∃ (z : Str) (S : Str → Bool) (n : Nat), y = .str z ∧ H7 D = some (SetTO P w D S n) ∧ n + 1 < scanBound ∧ Ny (L2.upd H7 D (SetTO P w D (fun k => S k || decide (k = z)) (if S z = true then n else n + 1))) else Ny H6)
      else Nx H3)
section
variable {X : Cx} {elt tg iter tg1 iter1 : Expr} {ifs ifs1 : List Expr} {scope : Scope} {own : List (Str × Nat)} {vs1 : List Nat} {pos : Pos} {wi wi1 : TI} {g g1 : TG} {tt tt1 : TT} {te : TE}
/-- the block's own context -/
abbrev Bk (X : Cx) (scope : Scope) (s : Shared) (H : Hp) (C : Addr) (cl : List (Str × Addr)) (fp : List Addr) : Cx := X.blk s H scope (compEnvC scope cl C X.env) fp
theorem pe_scT2 (hc : X.calm = true) (hN : X.N.Nodup) (hi : PI X tg iter wi) (ok : BlkOk X.N X.env.scope scope own) (hv : ∀ i ∈ vs1, i ∈ own.map (·.2))
    (hg : ∀ s H C cl fp, PG (Bk X scope s H C cl fp) tg g) (ht : ∀ s H C cl fp, PTs (Bk X scope s H C cl fp) ifs tt) (hi1 : ∀ s H C cl fp, PI (Bk X scope s H C cl fp) tg1 iter1 wi1)
    (hg1 : ∀ s H C cl fp, PG (Bk X scope s H C cl fp) tg1 g1) (ht1 : ∀ s H C cl fp, PTs (Bk X scope s H C cl fp) ifs1 tt1) (he : ∀ s H C cl fp, PE (Bk X scope s H C cl fp) elt te)
    (hs : ∀ x, foldedSetIterable iter X.env x = pure x := by intro _; rfl) (hs1 : ∀ env x, foldedSetIterable iter1 env x = pure x := by intro _ _; rfl) :
    PE X (sc2 elt tg iter tg1 iter1 ifs ifs1 scope pos) (tScT2 X.prog X.w wi g tt wi1 g1 tt1 te (own.map (·.2)) vs1) := by
  refine ⟨fun pins s σ H Q I h => ?_⟩
  rw [eval_SetComp]
  have cells : ∀ y ∈ scope.names, y.2 = .free → ∃ c, X.env.cells.lookup y.1 = some c := fun y hy e => (ok.free y hy e).elim (fun k => I.ok.has _ (.inl k)) fun k => I.ok.has _ (.inr k)
  refine wpAny_comprehension_free (use := none) rfl hs (closure_ok cells) ok.kind (fun y hy e => by rw [ok.uniq y hy, e]) (thn (hi.run pins s σ H _ I h) fun _ s1 h1 => thn h1 fun _ s2 h2 => ?_)
  obtain ⟨it, fp, at0, J, H2, rfl, I2, T, a2, f2, q⟩ := h2
  refine newSet_ok (newEnv_comp ?_)
  generalize eD : s2.heap.objs.size = D
  obtain ⟨W, ⟨m0, w0⟩, turn⟩ := q D (I2.hok.fresh (Nat.le_of_eq eD))
  generalize e3 : ({ s2 with heap := s2.heap.push { cls := .type "set", dict := none, data := .set #[] 0 (.fresh 0 0 (!X.w.params.followText "set-order")) } } : Shared) = s3
  generalize eH : L2.upd H2 D (SetTO X.prog X.w D (fun _ => false) 0) = H3 at w0
  have h3 : s3.heap = s2.heap.push { cls := .type "set", dict := none, data := .set #[] 0 (.fresh 0 0 (!X.w.params.followText "set-order")) } := by rw [← e3]
  have I3 : Inv X pins σ H3 s3 := by
    rw [← e3, ← eH, ← eD]
    exact I2.laid (t' := s2.toks) (fun _ _ e => Heap.get?_push_of_some _ e) (Nat.le_refl _) (setTO_new (setT_fresh X.prog X.w (Heap.get?_push_size _ rfl)))
  have f3 : ∀ b ∈ fp, FpOk X pins H3 b ∧ b < s3.heap.objs.size := fun b hb => by
    obtain ⟨o, eo, _⟩ := T.obj _ _ a2 b hb
    have lt := Heap.lt_size eo
    refine ⟨⟨?_, (f2 b hb).2⟩, by rw [h3, Heap.size_push]; exact Nat.lt_succ_of_lt lt⟩
    rw [← eH, upd_ne (by rw [← eD]; exact Nat.ne_of_lt lt)]
    exact (f2 b hb).1
  have a3 : at0 0 s3.heap := T.keep _ _ _ a2 fun _ _ _ e => by rw [h3]; exact Heap.get?_push_of_some _ e
  have I4 := block_start I3 ok hN f3
  generalize eC : cellsFrom (s3.heap.objs.size + 1) scope.names (cloFrom X.env.cells scope.names []) = cl at I4 ⊢
  have G : PG (X.blk s3 H3 scope (compEnvC scope cl s3.heap.objs.size X.env) fp) tg g := hg s3 H3 s3.heap.objs.size cl fp
  have Ts : PTs (X.blk s3 H3 scope (compEnvC scope cl s3.heap.objs.size X.env) fp) ifs tt := ht s3 H3 s3.heap.objs.size cl fp
  have It1 : PI (X.blk s3 H3 scope (compEnvC scope cl s3.heap.objs.size X.env) fp) tg1 iter1 wi1 := hi1 s3 H3 s3.heap.objs.size cl fp
  have G1 : PG (X.blk s3 H3 scope (compEnvC scope cl s3.heap.objs.size X.env) fp) tg1 g1 := hg1 s3 H3 s3.heap.objs.size cl fp
  have Ts1 : PTs (X.blk s3 H3 scope (compEnvC scope cl s3.heap.objs.size X.env) fp) ifs1 tt1 := ht1 s3 H3 s3.heap.objs.size cl fp
  have El : PE (X.blk s3 H3 scope (compEnvC scope cl s3.heap.objs.size X.env) fp) elt te := he s3 H3 s3.heap.objs.size cl fp
  have nf : ∀ b ∈ fp, H3 b = none := fun b hb => (f3 b hb).1.1
  show codeAny _ _ (.compStart (sc2 elt tg iter tg1 iter1 ifs ifs1 scope pos) 0 (.ref it) (.ref D) (compEnvC scope cl s3.heap.objs.size X.env)) (compPost (model X.prog X.w) X.A X.xe none (fun v s' => EP X pins σ Q v s') (.ref D) s3.heap.objs.size) { s3 with heap := pushCells (s3.heap.push { cls := .type "dict", data := .dict #[] }) scope.names }
  generalize e4 : ({ s3 with heap := pushCells (s3.heap.push { cls := .type "dict", data := .dict #[] }) scope.names } : Shared) = s4 at I4 ⊢
  have a4 : at0 0 s4.heap := T.keep _ _ _ a3 fun _ _ _ e => by rw [← e4]; exact pushCells_keeps _ _ _ _ (Heap.get?_push_of_some _ e)
  generalize eE : compEnvC scope cl s3.heap.objs.size X.env = ce at I4 G Ts It1 G1 Ts1 El ⊢
  have loc : ce.locals = s3.heap.objs.size := by subst eE; rfl
  -- what stands of an iterator's own things, within the block
  have own0 : ∀ {ps : List (Addr × Obj)} {σ' : L2.St} {H' : Hp} {s' : Shared}, Inv (X.blk s3 H3 scope ce fp) [] σ' H' s' → (∀ b ∈ fp, H' b = none) → ∀ b ∈ fp, FpOk (X.blk s3 H3 scope ce fp) [] H' b := fun {ps σ' H' s'} I' n b hb =>
    ⟨n b hb, (I'.ok.exf b hb).1, I'.ok.exfs b hb, .inl hb, (fun x c e => (I'.ok.exf b hb).2 x c e), fun p hp => absurd (show p ∈ ([] : List (Addr × Obj)) ++ [] from hp) (by simp)⟩
  let At : Nat → Shared → Prop := fun n s' => ∃ i H', Inv (X.blk s3 H3 scope ce fp) [] (wipe σ (own.map (·.2))) H' s' ∧ at0 i s'.heap ∧ (∀ b ∈ fp, H' b = none) ∧ W i n H'
  have main : codeAny (model X.prog X.w) X.A (.compLoop (sc2 elt tg iter tg1 iter1 ifs ifs1 scope pos) 0 (.ref it) (.ref D) ce) (compPost (model X.prog X.w) X.A X.xe none (fun v s' => EP X pins σ Q v s') (.ref D) s3.heap.objs.size) s4 := by
    refine sc2_loop0 (hs1 ce) At ?_ m0 ⟨0, H3, I4, a4, nf, w0⟩
    rintro n s5 ⟨i, H5, I5, a5, n5, w5⟩
    rcases turn i n H5 w5 with ⟨stop, fin⟩ | ⟨go, Nx, down, step⟩
    · refine thnF (T.done (X.blk s3 H3 scope ce fp) rfl rfl rfl hc i [] s5 _ H5 (fun _ _ => False) I5 (own0 (ps := []) I5 n5) a5 stop) fun r s6 ⟨er, I6⟩ => ?_
      subst er
      obtain ⟨m, hm, _⟩ := I6.loc
      have nC : H5 s3.heap.objs.size = none := by rw [← loc]; exact I6.free
      have I7 : Inv X pins σ H5 s6 := I3.call' (ch := fp) I6.os I6.base I6.hok I6.bare fun b hb => have z := (f3 b hb).1.2; ⟨z.2.2.1, z.1, z.2.2.2.1, z.2.2.2.2⟩
      obtain ⟨_, k1, _, k3, k4, k5⟩ := I3.fpOk (Nat.le_refl _) nC
      refine ⟨m, by rw [← loc]; exact hm, fun h'' sb => ?_⟩
      exact ⟨.ref D, H5, I7.turned (t' := s6.toks) (fun b o hb e => (sb.2 b hb).trans e) nC k1 k3 k4 k5, rfl, fin⟩
    · refine thnF (T.item (X.blk s3 H3 scope ce fp) rfl rfl rfl hc i [] s5 _ H5 (fun _ _ => False) I5 (own0 (ps := []) I5 n5) a5 go) fun r s6 ⟨u, er, h6⟩ => ?_
      subst er
      refine thnF h6 fun _ s7 ⟨x, H7, I7, r7, y7, a7, n7⟩ => ?_
      have P7 := I7.pinned (own0 (ps := []) I7 n7) (T.obj _ _ a7)
      refine thnF (G.run _ s7 _ H7 x u _ P7 r7 (step x H7 y7)) fun _ s8 ⟨σ8, H8, I8, e8, q8⟩ => ?_
      refine thnF (Ts.run _ s8 σ8 H8 _ I8 q8) fun b s9 ⟨H9, I9, q9⟩ => ?_
      have back : ∀ {σ9 : L2.St} {s' : Shared} {H' : Hp}, Inv (X.blk s3 H3 scope ce fp) ([] ++ pinsAt fp s7.heap) σ9 H' s' → (wipe σ (own.map (·.2))).length = σ9.length → (∀ (j : Nat) v, (wipe σ (own.map (·.2)))[j]? = some (some v) → σ9[j]? = some (some v)) → Nx H' →
          ∃ m, m < n ∧ At m s' := fun {σ9 s' H'} I' l k nx => by
        obtain ⟨m', lt, w'⟩ := down H' nx
        have st : ∀ b ∈ fp, ∀ o, s7.heap.get? b = some o → s'.heap.get? b = some o ∧ H' b = none := fun b hb o e =>
          have z := I'.pin (b, o) (List.mem_append_right _ (List.mem_append_right _ (mem_pinsAt hb e)))
          ⟨z.1, z.2.1⟩
        refine ⟨m', lt, i + 1, H', (I'.unpinned (pins := [])).weak l k, T.keep _ _ _ a7 fun b hb o e => (st b hb o e).1, fun b hb => ?_, w'⟩
        obtain ⟨o, e, _⟩ := T.obj _ _ a7 b hb
        exact (st b hb o e).2
      have len8 : (wipe σ (own.map (·.2))).length = σ8.length := by rw [← e8, wipe_length]
      have known8 : ∀ (j : Nat) v, (wipe σ (own.map (·.2)))[j]? = some (some v) → σ8[j]? = some (some v) := fun j v e => (wipe_some (by rw [e8]; exact e)).1
      cases b with
      | false =>
        rw [if_neg Bool.false_ne_true] at q9
        exact back I9 len8 known8 q9
      | true =>
        rw [if_pos rfl] at q9
        refine thnF (It1.run _ s9 σ8 H9 _ I9 q9) fun _ s10 h10 => thnF h10 fun _ s11 h11 => ?_
        obtain ⟨it1, fp1, at1, J1, H11, rfl, I11, T1, a11, f11, W1, ⟨m1, w1⟩, turn1⟩ := h11
        have own1 : ∀ {H' : Hp}, (∀ b ∈ fp1, H' b = none) → ∀ b ∈ fp1, FpOk (X.blk s3 H3 scope ce fp) ([] ++ pinsAt fp s7.heap) H' b := fun n b hb => ⟨n b hb, (f11 b hb).2⟩
        have inner : codeAny (model X.prog X.w) X.A (.compLoop (sc2 elt tg iter tg1 iter1 ifs ifs1 scope pos) 1 (.ref it1) (.ref D) ce) (fun r s' => match r with
              | .ok _ => ∃ m, m < n ∧ At m s'
              | .error _ => False) s11 := by
          refine sc2_loop1 (fun k s' => ∃ j H', Inv (X.blk s3 H3 scope ce fp) ([] ++ pinsAt fp s7.heap) (wipe σ8 vs1) H' s' ∧ at1 j s'.heap ∧ (∀ b ∈ fp1, H' b = none) ∧ W1 j k H') ?_ m1 ⟨0, H11, I11.weak (wipe_length _ _) (fun j v e => (wipe_some e).1), a11, (fun b hb => (f11 b hb).1), w1⟩
          rintro k s12 ⟨j, H12, I12, a12, n12, w12⟩
          rcases turn1 j k H12 w12 with ⟨stop1, nx1⟩ | ⟨go1, Ny, down1, step1⟩
          · refine thnF (T1.done (X.blk s3 H3 scope ce fp) rfl rfl rfl hc j _ s12 (wipe σ8 vs1) H12 (fun _ _ => False) I12 (own1 n12) a12 stop1) fun r s13 ⟨er, I13⟩ => ?_
            subst er
            refine back I13 (len8.trans (wipe_length σ8 vs1).symm) (fun j v e => ?_) nx1
            obtain ⟨z1, z2⟩ := wipe_some (by rw [e8]; exact e)
            rw [wipe_out fun z => z2 (hv j z)]
            exact z1
          · refine thnF (T1.item (X.blk s3 H3 scope ce fp) rfl rfl rfl hc j _ s12 (wipe σ8 vs1) H12 (fun _ _ => False) I12 (own1 n12) a12 go1) fun r s13 ⟨u1, er, h13⟩ => ?_
            subst er
            refine thnF h13 fun _ s14 ⟨x1, H14, I14, r14, y14, a14, n14⟩ => ?_
            refine thnF (G1.run _ s14 (wipe σ8 vs1) H14 x1 u1 _ (I14.pinned (own1 n14) (T1.obj _ _ a14)) r14 (step1 x1 H14 y14)) fun _ s15 ⟨σ15, H15, I15, e15, q15⟩ => ?_
            refine thnF (Ts1.run _ s15 σ15 H15 _ I15 q15) fun b1 s16 ⟨H16, I16, q16⟩ => ?_
            have back1 : ∀ {s' : Shared} {H' : Hp}, Inv (X.blk s3 H3 scope ce fp) (([] ++ pinsAt fp s7.heap) ++ pinsAt fp1 s14.heap) σ15 H' s' → Ny H' →
                ∃ m, m < k ∧ ∃ j H', Inv (X.blk s3 H3 scope ce fp) ([] ++ pinsAt fp s7.heap) (wipe σ8 vs1) H' s' ∧ at1 j s'.heap ∧ (∀ b ∈ fp1, H' b = none) ∧ W1 j m H' := fun {s' H'} I' nx => by
              obtain ⟨m', lt, w'⟩ := down1 H' nx
              have st : ∀ b ∈ fp1, ∀ o, s14.heap.get? b = some o → s'.heap.get? b = some o ∧ H' b = none := fun b hb o e =>
                have z := I'.pin (b, o) (List.mem_append_right _ (List.mem_append_right _ (mem_pinsAt hb e)))
                ⟨z.1, z.2.1⟩
              refine ⟨m', lt, j + 1, H', I'.unpinned.weak (by rw [← e15, wipe_length]) (fun j v e => (wipe_some (by rw [e15]; exact e)).1), T1.keep _ _ _ a14 fun b hb o e => (st b hb o e).1, fun b hb => ?_, w'⟩
              obtain ⟨o, e, _⟩ := T1.obj _ _ a14 b hb
              exact (st b hb o e).2
            cases b1 with
            | false =>
              rw [if_neg Bool.false_ne_true] at q16
              exact back1 I16 q16
            | true =>
              rw [if_pos rfl] at q16
              refine thnF (El.run _ s16 σ15 H16 _ I16 q16) fun v s17 ⟨yv, H17, I17, r17, z, S, c, ey, eD17, room, nx⟩ => ?_
              subst ey
              obtain ⟨tk, rfl⟩ := r17
              exact addT_ok (X := X.blk s3 H3 scope ce fp) I17 eD17 room fun s18 I18 => back1 I18 nx
        exact sc2_start 1 (.inr rfl) inner (T1.self X.A 0 _ _ _ a11 inner)
  exact sc2_start 0 (.inl rfl) main (T.self X.A 0 _ _ _ a4 main)
end
end LW
/-! Several dicts locked while an expression runs. -/
namespace LW
open PySem PySem.Spec PyProof.Rows L2 GxR
def tLk (t : TE) : List Addr → TE
  | [] => t
  | d :: ds => tLockE1 d (tLk t ds)
where tLockE1 (d : Addr) (t : TE) : TE := fun σ H Q => ∃ u, H d = some u ∧ Mut (some u) ∧ ∀ od, t σ (L2.upd H d (.frz od u)) fun v H' => H' d = some (.frz od u) ∧ Q v (L2.upd H' d u)
/-- the reading chooses the dicts -/
def tLocks (t : TE) : TE := fun σ H Q => ∃ ds, tLk t ds σ H Q
theorem pe_locks {X : Cx} {e : Expr} {t : TE} (h : PE X e t) : PE X e (tLocks t) := by
  refine ⟨fun pins s σ H Q I ⟨ds, q⟩ => ?_⟩
  have all : ∀ ds : List Addr, PE X e (tLk t ds) := fun ds => by
    induction ds with
    | nil => exact h
    | cons d ds ih => exact ⟨fun pins s σ H Q I ⟨u, e1, e2, q⟩ => (pe_lock ih).run pins s σ H Q I ⟨d, u, e1, e2, q⟩⟩
  exact (all ds).run pins s σ H Q I q
/-- the heap with the dicts ds as they were in H -/
def back (ds : List Addr) (H H' : Hp) : Hp := fun b => if b ∈ ds then H b else H' b
theorem lk_all {t : TE} {σ : L2.St} : ∀ (ds : List Addr) (H : Hp) (Q : VK), ds.Nodup → (∀ d ∈ ds, ∃ kvs, H d = some (.dK kvs)) →
    (∀ H2 : Hp, (∀ b, b ∉ ds → H2 b = H b) → (∀ d ∈ ds, ∀ kvs, H d = some (.dK kvs) → ∃ o, H2 d = some (.frz o (.dK kvs))) → t σ H2 (fun v H' => (∀ d ∈ ds, H' d = H2 d) ∧ Q v (back ds H H'))) → tLk t ds σ H Q := by
  intro ds
  induction ds with
  | nil =>
    intro H Q _ _ k
    have e : (fun (v : V) (H' : Hp) => (∀ d ∈ ([] : List Addr), H' d = H d) ∧ Q v (back [] H H')) = Q := by
      funext v H'
      apply propext
      have : back [] H H' = H' := by funext b; unfold back; simp
      rw [this]
      exact ⟨fun z => z.2, fun z => ⟨by simp, z⟩⟩
    have := k H (fun _ _ => rfl) (fun d hd => by simp at hd)
    rw [e] at this
    exact this
  | cons d ds ih =>
    intro H Q nd hk k
    obtain ⟨n1, n2⟩ := List.nodup_cons.mp nd
    obtain ⟨kvs, hd⟩ := hk d List.mem_cons_self
    refine ⟨.dK kvs, hd, True.intro, fun od => ?_⟩
    have ne : ∀ {b}, b ∈ ds → b ≠ d := fun hb e => n1 (e ▸ hb)
    refine ih _ _ n2 (fun b hb => ?_) (fun H2 a1 a2 => ?_)
    · obtain ⟨kv, e⟩ := hk b (List.mem_cons_of_mem _ hb)
      exact ⟨kv, by rw [upd_ne (ne hb)]; exact e⟩
    · have hd2 : H2 d = some (.frz od (.dK kvs)) := by rw [a1 d n1, upd_same]
      have q := k H2 (fun b hb => by
        rw [a1 b fun z => hb (List.mem_cons_of_mem _ z), upd_ne fun z => hb (by rw [z]; exact List.mem_cons_self)]) (fun b hb kv e => by
        rcases List.mem_cons.mp hb with rfl | hb
        · rw [hd] at e
          cases e
          exact ⟨od, hd2⟩
        · exact a2 b hb kv (by rw [upd_ne (ne hb)]; exact e))
      have e : (fun (v : V) (H' : Hp) => (∀ b ∈ d :: ds, H' b = H2 b) ∧ Q v (back (d :: ds) H H')) = fun v H' => (∀ b ∈ ds, H' b = H2 b) ∧ ((back ds (L2.upd H d (.frz od (.dK kvs))) H') d = some (.frz od (.dK kvs)) ∧ Q v (L2.upd (back ds (L2.upd H d (.frz od (.dK kvs))) H') d (.dK kvs))) := by
        funext v H'
        apply propext
        have e1 : (back ds (L2.upd H d (.frz od (.dK kvs))) H') d = H' d := by unfold back; rw [if_neg n1]
        have e2 : L2.upd (back ds (L2.upd H d (.frz od (.dK kvs))) H') d (.dK kvs) = back (d :: ds) H H' := by
          funext b
          by_cases hb : b = d
          · subst hb
            rw [upd_same]
            unfold back
            rw [if_pos List.mem_cons_self, hd]
          · rw [upd_ne hb]
            unfold back
            by_cases hm : b ∈ ds
            · rw [if_pos hm, if_pos (List.mem_cons_of_mem _ hm), upd_ne hb]
            · rw [if_neg hm, if_neg (fun z => (List.mem_cons.mp z).elim hb hm)]
        rw [e1, e2]
        constructor
        · rintro ⟨z1, z2⟩
          exact ⟨fun b hb => z1 b (List.mem_cons_of_mem _ hb), (z1 d List.mem_cons_self).trans hd2, z2⟩
        · rintro ⟨z1, z2, z3⟩
          exact ⟨fun b hb => by
            rcases List.mem_cons.mp hb with rfl | hb
            · exact z2.trans hd2.symm
            · exact z1 b hb, z3⟩
      rw [e] at q
      exact q
end LW
namespace LW
open PySem PySem.Spec PyProof.Rows L2 GxR
/-- a walk by its invariant, whatever is done with an item -/
theorem walk_inv {J : It} {n : Nat} {G : Hp → Prop} {Y : Nat → Hp → V → Hp → Prop} (w : Walk J n G Y) {Body : V → Hp → (Hp → Prop) → Prop} {H0 : Hp} {Qd : Hp → Prop} (Pv : Nat → Hp → Prop) (h0 : Pv 0 H0) (hG : ∀ i H, i ≤ n → Pv i H → G H)
    (hs : ∀ i x H H', i < n → Pv i H → Y i H x H' → Body x H' (Pv (i + 1))) (hd : ∀ H, Pv n H → Qd H) :
    ∃ W : Nat → Nat → Hp → Prop, (∃ m, W 0 m H0) ∧ ∀ i m H, W i m H → (J.stop i H ∧ Qd H) ∨ (J.go i H ∧ ∃ Nx : Hp → Prop, (∀ H', Nx H' → ∃ m', m' < m ∧ W (i + 1) m' H') ∧ ∀ x H', J.yld i H x H' → Body x H' Nx) := by
  refine ⟨fun i m H => m = n - i ∧ i ≤ n ∧ Pv i H, ⟨n, rfl, Nat.zero_le _, h0⟩, ?_⟩
  rintro i m H ⟨rfl, hi, p⟩
  have g := hG i H hi p
  by_cases lt : i < n
  · exact .inr ⟨w.goes i H lt g, Pv (i + 1), fun H' p' => ⟨n - (i + 1), by omega, rfl, lt, p'⟩, fun x H' y => hs i x H H' lt p (w.yields i H x H' lt g y)⟩
  · obtain rfl : i = n := by omega
    exact .inl ⟨w.stops H g, hd H p⟩
end LW
namespace LW
open PySem PySem.Spec PyProof.Rows L2 GxR
/-- all is kept but the law's state -/
structure Mv (a c : Addr) (H H' : Hp) : Prop where
  keep : ∀ b o, b ≠ a → b ≠ c → H b = some o → H' b = some o
  free : ∀ b, H' b = none → H b = none
theorem Mv.refl (a c : Addr) (H : Hp) : Mv a c H H := ⟨fun _ _ _ _ e => e, fun _ n => n⟩
theorem Mv.trans {a c : Addr} {H H1 H2 : Hp} (m : Mv a c H H1) (n : Mv a c H1 H2) : Mv a c H H2 := ⟨fun b o h1 h2 e => n.keep b o h1 h2 (m.keep b o h1 h2 e), fun b z => m.free b (n.free b z)⟩
theorem Mv.same {a c : Addr} {H H' : Hp} (s : Same H H') : Mv a c H H' := ⟨fun b o _ _ e => s b o e, fun b n => s.free n⟩
theorem Mv.take {a c : Addr} {H H' : Hp} (s : SL H a c) (s' : SL H' a c) (e : ∀ b, b ≠ a → b ≠ c → H' b = H b) : Mv a c H H' := ⟨fun b o h1 h2 z => by rw [e b h1 h2]; exact z, fun b z => by
  by_cases h1 : b = a
  · obtain ⟨n, cs, q, _⟩ := s'
    rw [h1, q] at z; cases z
  · by_cases h2 : b = c
    · obtain ⟨n, cs, _, q, _⟩ := s'
      rw [h2, q] at z; cases z
    · rw [← e b h1 h2]; exact z⟩
theorem Mv.new {a c : Addr} {H H' : Hp} {p : Addr} {o : HO} (m : Mv a c H H') (n : H p = none) : Mv a c H (L2.upd H' p o) := ⟨fun b u h1 h2 e => by rw [upd_ne (ne_of_none e n)]; exact m.keep b u h1 h2 e, fun b z => by
  by_cases h : b = p
  · rw [h]; exact n
  · rw [upd_ne h] at z; exact m.free b z⟩
theorem Mv.tab {a c : Addr} {H H' : Hp} {B : Addr} (m : Mv a c H H') (s : SL H a c) (t : TabG H B) : TabG H' B := by
  have n := s.tab t
  obtain ⟨ps, e, r⟩ := t
  exact ⟨ps, m.keep _ _ n.1 n.2 e, r⟩
theorem join_one (xs : List Nat) : TL.tl (Txt.join (Str.ofString "") (xs.map fun c => (⟨#[c]⟩ : Str))) = xs := by
  rw [TL.join_eq, TL.tl_join, tl_empty, joinL_nil, List.map_map]
  induction xs with
  | nil => rfl
  | cons z r ih =>
    rw [List.map_cons, List.flatten_cons, ih]
    rfl
/-- the signs of a drawn text -/
def drawn : List Nat := [97, 98, 99, 88, 89, 32, 48, 49]
theorem drawn_eq : (Str.ofString "abcXY 01").cps.toList = drawn := by decide +kernel
/-- a text at will, of at most m signs -/
def spText : Sp := fun vs H Q _ => ∃ (a c : Addr) (m : Nat), vs = [.ref a, .int (m : Int)] ∧ SL H a c ∧ m < 1000 ∧ ∀ x H', x.length ≤ m → (∀ z ∈ x.cps.toList, z ∈ drawn) → SL H' a c → Mv a c H H' → Q (.str x) H'
/-- all is kept but at the addresses F -/
structure Kp (F : Addr → Prop) (H H' : Hp) : Prop where
  keep : ∀ b o, ¬ F b → H b = some o → H' b = some o
  free : ∀ b, H' b = none → H b = none
theorem Kp.refl (F : Addr → Prop) (H : Hp) : Kp F H H := ⟨fun _ _ _ e => e, fun _ n => n⟩
theorem Kp.trans {F : Addr → Prop} {H H1 H2 : Hp} (m : Kp F H H1) (n : Kp F H1 H2) : Kp F H H2 := ⟨fun b o h e => n.keep b o h (m.keep b o h e), fun b z => m.free b (n.free b z)⟩
theorem Kp.weak {F G : Addr → Prop} {H H' : Hp} (m : Kp F H H') (h : ∀ b, F b → G b) : Kp G H H' := ⟨fun b o n e => m.keep b o (fun z => n (h b z)) e, m.free⟩
theorem Kp.same {F : Addr → Prop} {H H' : Hp} (s : Same H H') : Kp F H H' := ⟨fun b o _ e => s b o e, fun b n => s.free n⟩
theorem Kp.mv {a c : Addr} {F : Addr → Prop} {H H' : Hp} (m : Mv a c H H') (ha : F a) (hc : F c) : Kp F H H' := ⟨fun b o n e => m.keep b o (fun z => n (z ▸ ha)) (fun z => n (z ▸ hc)) e, m.free⟩
theorem Kp.new {F : Addr → Prop} {H H' : Hp} {p : Addr} {o : HO} (m : Kp F H H') (n : H' p = none) : Kp F H (L2.upd H' p o) := m.trans (.same (same_upd n))
theorem Kp.put {F : Addr → Prop} {H H' : Hp} {p : Addr} {o : HO} (m : Kp F H H') (h : F p) (n : H' p ≠ none) : Kp F H (L2.upd H' p o) := m.trans ⟨fun b u nb e => by
  rw [upd_ne (show b ≠ p from fun z => nb (by rw [z]; exact h))]; exact e, fun b z => by
  by_cases e : b = p
  · rw [e, upd_same] at z; cases z
  · rw [upd_ne e] at z; exact z⟩
theorem kp_take {a c : Addr} {H H' : Hp} (s : SL H a c) (s' : SL H' a c) (e : ∀ b, b ≠ a → b ≠ c → H' b = H b) : Kp (fun b => b = a ∨ b = c) H H' := .mv (Mv.take s s' e) (.inl rfl) (.inr rfl)
end LW
namespace LW
open PySem PySem.Spec PyProof.Rows L2 GxR
theorem dp_txt {K : PySem.W.Frag} {H : Hp} : ∀ ls : List Str, DpAll K H (ls.map V.str) (ls.map PyData.str)
  | [] => .nil
  | x :: r => .cons (.str x) (dp_txt r)
theorem dp_num {K : PySem.W.Frag} {H : Hp} : ∀ ls : List Int, DpAll K H (ls.map V.int) (ls.map PyData.int)
  | [] => .nil
  | x :: r => .cons (.int x) (dp_num r)
theorem lay_txt : ∀ ls : List Str, (∀ x ∈ ls, PyData.strOk x = true) → PyData.canLayAll0 (ls.map PyData.str) = true ∧ PyData.depthAll (ls.map PyData.str) = 0
  | [], _ => ⟨rfl, rfl⟩
  | x :: r, h => by
    have ih := lay_txt r fun y hy => h y (List.mem_cons_of_mem _ hy)
    constructor
    · rw [List.map_cons, PyData.canLayAll0, ih.1, PyData.canLay0, h x List.mem_cons_self]; rfl
    · rw [List.map_cons, PyData.depthAll, ih.2, PyData.depth]; rfl
theorem lay_num : ∀ ls : List Int, PyData.canLayAll0 (ls.map PyData.int) = true ∧ PyData.depthAll (ls.map PyData.int) = 0
  | [] => ⟨rfl, rfl⟩
  | x :: r => by
    have ih := lay_num r
    constructor
    · rw [List.map_cons, PyData.canLayAll0, ih.1, PyData.canLay0]; rfl
    · rw [List.map_cons, PyData.depthAll, ih.2, PyData.depth]; rfl
theorem shaped_txt {ls : List Str} (h : ∀ x ∈ ls, PyData.strOk x = true) : SeqAt.shaped (.list (ls.map PyData.str)) = true := by
  have l := lay_txt ls h
  unfold SeqAt.shaped
  rw [PyData.canLay0, l.1, PyData.depth, l.2]
  rfl
theorem shaped_num {ls : List Int} : SeqAt.shaped (.list (ls.map PyData.int)) = true := by
  have l := lay_num ls
  unfold SeqAt.shaped
  rw [PyData.canLay0, l.1, PyData.depth, l.2]
  rfl
theorem same_txt {ls : List Str} (h : ∀ x ∈ ls, PyData.strOk x = true) : PyData.eqv (.list (ls.map PyData.str)) (.list (ls.map PyData.str)) = true := SeqAt.eqv_refl _ (by rw [PyData.canLay0]; exact (lay_txt ls h).1)
theorem same_num {ls : List Int} : PyData.eqv (.list (ls.map PyData.int)) (.list (ls.map PyData.int)) = true := SeqAt.eqv_refl _ (by rw [PyData.canLay0]; exact (lay_num ls).1)
end LW
namespace LW
open PySem PySem.Spec PyProof.Rows L2 GxR
theorem over_genL {A : Around} {elt : Expr} {cs : List Comprehension} {sc : Scope} {pos : Pos} {it acc : Value} {env : Env} : A.over (.compLoop (.GeneratorExp elt cs sc pos) 0 it acc env) [] = A.deeper env := by
  first
    | rfl
    | (obtain ⟨hd, d, fr, gs, u⟩ := A; simp [Around.over, Around.deeper, marksOver, frameCount, unitsOf, envsOf, guardsOf, pushEnvs, pushGuards, Code.envs, Code.env?, Code.isFrame, Code.guards, Code.isGuard, Code.weight, Code.frames, Code.isCreation, Code.isCaller, Code.cUnits])
theorem over_genS {A : Around} {elt : Expr} {cs : List Comprehension} {sc : Scope} {pos : Pos} {it acc : Value} {env : Env} : A.over (.compStart (.GeneratorExp elt cs sc pos) 0 it acc env) [] = A.deeper env := by
  first
    | rfl
    | (obtain ⟨hd, d, fr, gs, u⟩ := A; simp [Around.over, Around.deeper, marksOver, frameCount, unitsOf, envsOf, guardsOf, pushEnvs, pushGuards, Code.envs, Code.env?, Code.isFrame, Code.guards, Code.isGuard, Code.weight, Code.frames, Code.isCreation, Code.isCaller, Code.cUnits])
/-- the names of a generator expression's block: its own, or captured; no cell of its own -/
structure GBlk (N : List Str) (sc scope : Scope) (own : List (Str × Nat)) : Prop where
  blk : BlkOk N sc scope own
  co : scope.isCoroutine = false
  cell : ∀ y ∈ scope.names, y.2 ≠ .cell
  dot : scope.names.lookup (".0" : Str) = some NameKind.local
def gblkC (N : List Str) (sc scope : Scope) (own : List (Str × Nat)) : Bool :=
  blkC N sc scope own && !scope.isCoroutine && (scope.names.all fun y => match y.2 with | .cell => false | _ => true) && (match scope.names.lookup (".0" : Str) with | some .local => true | _ => false)
theorem gblk_by {N : List Str} {sc scope : Scope} {own : List (Str × Nat)} (h : gblkC N sc scope own = true) : GBlk N sc scope own := by
  unfold gblkC at h
  simp only [Bool.and_eq_true, List.all_eq_true] at h
  obtain ⟨⟨⟨h1, h2⟩, h3⟩, h4⟩ := h
  refine ⟨blkOk_by h1, by simpa using h2, fun y hy e => ?_, ?_⟩
  · have := h3 y hy
    rw [e] at this
    cases this
  · split at h4
    · assumption
    · cases h4
/-- the context of a generator expression's run -/
abbrev Gx (X : Cx) (A : Around) (s : Shared) (H : Hp) (cenv : Env) (fp : List Addr) (pn : List (Addr × Obj)) : Cx :=
  { X with A := A.deeper cenv, s_0 := s, H_0 := H, env := cenv, outer := X.stack, stack := cenv :: X.stack, ex := fp, fn := fun _ => false, pn := pn, xe := fun _ _ => False }
abbrev gEnv (X : Cx) (sc : Scope) (C : Addr) (code : Value) : Env := genEnv sc (cloFrom X.env.cells sc.names []) C code builtinsNs X.env
section
variable {X : Cx} {pins : List (Addr × Obj)} {σ : L2.St} {H : Hp} {s : Shared}
theorem inv_same {s' : Shared} (I : Inv X pins σ H s) (hh : s'.heap = s.heap) (ho : s'.os = s.os) (hb : AllBare s'.gens) : Inv X pins σ H s' :=
  ⟨I.ok, ho.trans I.os, hb, by rw [hh]; exact I.base, by rw [hh]; exact I.loc, by rw [hh]; exact I.cell, I.free, I.freeC, by rw [hh]; exact I.pin, by rw [hh]; exact I.hok, I.len⟩
theorem gen_back {A : Around} {cenv : Env} {fp : List Addr} {pn : List (Addr × Obj)} {σ' : L2.St} {H' : Hp} {s' : Shared} {ps : List (Addr × Obj)} (I : Inv X pins σ H s) (hfp : ∀ b ∈ fp, FpOk X pins H b) (J : Inv (Gx X A s H cenv fp pn) ps σ' H' s') : Inv X pins σ H' s' :=
  I.call' (ch := fp) J.os J.base J.hok J.bare fun b hb => ⟨(hfp b hb).2.2.2.1, (hfp b hb).2.1, (hfp b hb).2.2.2.2.1, (hfp b hb).2.2.2.2.2⟩
theorem gen_start {A : Around} {scope : Scope} {own : List (Str × Nat)} {fp : List Addr} {code : Value} {it : Value} {h1 : Heap} {go : Obj} {s' : Shared} (I : Inv X pins σ H s) (ok : GBlk X.N X.env.scope scope own) (hN : X.N.Nodup)
    (hfp : ∀ b ∈ fp, FpOk X pins H b ∧ b < s.heap.objs.size) (hd : A.handled = none) (hfr : A.frames = some X.stack)
    (hn : h1.Ns s.heap.objs.size (fun y => if y = (".0" : Str) then some it else none)) (k1 : ∀ b o, s.heap.get? b = some o → h1.get? b = some o) (sz : s.heap.objs.size < h1.objs.size)
    (hgo : ∀ v, go.data ≠ .cell v) (hgs : (h1.push go).get? h1.objs.size = some go) (hh : s'.heap = h1.push go) (ho : s'.os = s.os) (hb : AllBare s'.gens) :
    Inv (Gx X A s H (gEnv X scope s.heap.objs.size code) fp [(h1.objs.size, go)]) [] (wipe σ (own.map (·.2))) H s' := by
  have hfree : ∀ y ∈ scope.names, y.2 = .free → ∃ c, X.env.cells.lookup y.1 = some c := fun y hy e => by
    rcases ok.blk.free y hy e with k | k
    · exact I.ok.has _ (.inl k)
    · exact I.ok.has _ (.inr k)
  have kp : ∀ b o, s.heap.get? b = some o → s'.heap.get? b = some o := fun b o e => by rw [hh]; exact Heap.get?_push_of_some _ (k1 b o e)
  have cm : ∀ {y c}, (y, c) ∈ cloFrom X.env.cells scope.names [] → (y, NameKind.free) ∈ scope.names ∧ X.env.cells.lookup y = some c ∧ c < s.heap.objs.size := fun {y c} hm => by
    rcases cloFrom_mem hm with hm | ⟨h1, rfl⟩
    · cases hm
    · obtain ⟨c, hc⟩ := hfree _ h1 rfl
      rw [hc]
      obtain ⟨w, z⟩ := I.cell _ _ hc
      exact ⟨h1, rfl, z.lt⟩
  have mem : ∀ {y c}, (gEnv X scope s.heap.objs.size code).cells.lookup y = some c → (y, NameKind.free) ∈ scope.names ∧ X.env.cells.lookup y = some c ∧ c < s.heap.objs.size := fun {y c} e => cm (PySem.mem_of_lookup e)
  have look : ∀ {y}, scope.names.lookup y = some .free → ∃ c, (gEnv X scope s.heap.objs.size code).cells.lookup y = some c ∧ X.env.cells.lookup y = some c := fun {y} hl => by
    have hy : (y, NameKind.free) ∈ scope.names := PySem.mem_of_lookup hl
    obtain ⟨c', e'⟩ := mem_lookup (cloFrom_has (cells := X.env.cells) (acc := []) hy)
    exact ⟨c', e', (mem e').2.1⟩
  have big : ∀ b, s.heap.objs.size ≤ b → H b = none ∧ b ∉ frs X.stack := fun b hb => by
    refine ⟨I.hok.fresh hb, fun z => ?_⟩
    rcases List.mem_cons.mp (I.stkSub b z) with z | z
    · have l := I.lt
      rw [← z] at l
      exact absurd (Nat.lt_of_lt_of_le l hb) (Nat.lt_irrefl _)
    · exact I.nofs hb z
  have okB : (Gx X A s H (gEnv X scope s.heap.objs.size code) fp [(h1.objs.size, go)]).Ok := by
    refine ⟨I.ok.mod, ok.blk.kind, I.ok.glob, rfl, Nat.le_refl _, fun y z c e1 e2 => I.ok.inj y z c (mem e1).2.1 (mem e2).2.1, fun y hy => ?_, (fun y c z e => by cases z), (fun _ => hd), Around.frames_deeper hfr, .inr ⟨rfl, rfl⟩,
      fun b hb => ⟨Nat.ne_of_lt (hfp b hb).2, fun y c e => (hfp b hb).1.2.2.2.2.1 y c (mem e).2.1⟩, I.bs, Nat.le_trans I.ok.bsz I.sz, fun b o e hb => ?_, fun b hb z => ?_, I.stack, I.stkFree⟩
    · rcases hy with hy | hy
      · exact absurd rfl (ok.cell _ (PySem.mem_of_lookup (show scope.names.lookup y = some .cell from hy)))
      · obtain ⟨c, h1, _⟩ := look (show scope.names.lookup y = some .free from hy)
        exact ⟨c, h1⟩
    · rcases (hfp b hb).1.2.2.2.1 with z | z
      · exact I.ok.noex b o e z
      · exact absurd (Nat.lt_of_lt_of_le (Heap.lt_size e) (Nat.le_trans I.ok.bsz z)) (Nat.lt_irrefl _)
    · rcases List.mem_cons.mp (I.stkSub b z) with z | z
      · exact (hfp b hb).1.2.1 z
      · exact (hfp b hb).1.2.2.1 z
  refine ⟨okB, ho, hb, Un.kept kp, ⟨_, by rw [hh]; exact hn.push _, fun i y av e1 e2 e3 => ?_⟩, fun y c e => ?_, (big _ (Nat.le_refl _)).1, fun y c e => I.freeC y c (mem e).2.1, fun p hp => ?_, I.hok.kept kp, by rw [wipe_length]; exact I.len⟩
  · obtain ⟨e2, hne⟩ := wipe_some e2
    have no : ¬ (scope.names.lookup y = some .local ∨ scope.names.lookup y = some .cell) := fun h => by
      have hm : ∃ k, (y, k) ∈ scope.names ∧ (k = .local ∨ k = .cell) := h.elim (fun z => ⟨_, PySem.mem_of_lookup z, .inl rfl⟩) fun z => ⟨_, PySem.mem_of_lookup z, .inr rfl⟩
      obtain ⟨k, hm, hk⟩ := hm
      rcases ok.blk.own _ hm hk with e' | e'
      · obtain ⟨p, hp, hpy⟩ := List.mem_map.mp e'
        have e3 := ok.blk.ix p hp
        have : p.1 = y := hpy
        rw [this] at e3
        exact hne (List.mem_map.mpr ⟨p, hp, nodup_ix hN e3 e1⟩)
      · exact e' (List.mem_of_getElem? e1)
    have hf : scope.names.lookup y = some .free := by
      rcases e3 with e3 | e3 | e3
      · exact absurd (.inl e3) no
      · exact absurd (.inr e3) no
      · exact e3
    obtain ⟨m, hn, hl⟩ := I.loc
    have hvis : Vis X.env.scope y := (ok.blk.free _ (PySem.mem_of_lookup hf) rfl).elim (fun k => .inr (.inl k)) (fun k => .inr (.inr k))
    obtain ⟨w, r, q⟩ := hl i y av e1 e2 hvis
    refine ⟨w, r, .inr ⟨.inr hf, ?_⟩⟩
    obtain ⟨c, h1, h2⟩ := look hf
    rcases q with ⟨k, _⟩ | ⟨_, c', e', z⟩
    · have k : X.env.scope.names.lookup y = some .local := k
      rcases ok.blk.free _ (PySem.mem_of_lookup hf) rfl with k' | k' <;> rw [show X.env.scope.names.lookup y = _ from k'] at k <;> cases k
    · rw [h2] at e'; cases e'
      exact ⟨c, h1, z.keeps kp⟩
  · obtain ⟨w, z⟩ := I.cell y c (mem e).2.1
    exact ⟨w, z.keeps kp⟩
  · rcases List.mem_append.mp hp with z | z
    · rw [List.mem_singleton.mp z]
      obtain ⟨b1, b2⟩ := big h1.objs.size (Nat.le_of_lt sz)
      exact ⟨by rw [hh]; exact hgs, b1, Nat.ne_of_gt sz, b2, hgo⟩
    · cases z
end
end LW
namespace LW
open PySem PySem.Spec PyProof.Rows L2 GxR
/-- a walk whose elements are bools: it ends with the source, or at the first False -/
def WalkL (J : It) (g : TG) (te : TE) (vs : List Nat) (σ : L2.St) (Qt : Bool → Hp → Prop) (W : Nat → Nat → Hp → Prop) : Prop := ∀ i m H, W i m H →
  (J.stop i H ∧ Qt true H) ∨ (J.go i H ∧ ∃ Nx : Hp → Prop, (∀ H', Nx H' → ∃ m', m' < m ∧ W (i + 1) m' H') ∧ ∀ x H', J.yld i H x H' → g x (wipe σ vs) H' fun σ2 H3 => wipe σ2 vs = wipe σ vs ∧ te σ2 H3 fun y H4 => ∃ b, y = .bl b ∧ if b = true then Nx H4 else Qt false H4)
/-- an element is handed out -/
def YL (Y : Cx) (τ : L2.St) (Qt : Bool → Hp → Prop) : Protocol := fun n s₀ v s1 kap =>
  ∃ b H1, v = .bool b ∧ Inv Y [] τ H1 s1 ∧ (b = false → Qt false H1) ∧ (b = true → ∀ s' : Shared, s'.heap = s1.heap → s'.os = s1.os → AllBare s'.gens → kap (.send .none) s')
def FL (Y : Cx) (τ : L2.St) (Qt : Bool → Hp → Prop) : Nat → Shared → Shared → Prop := fun _ _ s1 => ∃ H1, Inv Y [] τ H1 s1 ∧ Qt true H1
def RL (Y : Cx) (τ : L2.St) (Qt : Bool → Hp → Prop) : GenEnd := fun n s₀ r s1 => ((r = .ok (.ret .none) ∨ r = .ok .next) ∧ FL Y τ Qt n s₀ s1) ∨ ∃ e, r = .error e ∧ (fun _ _ => False : Value → Shared → Prop) e s1
section
variable {X : Cx} {σ : L2.St}
theorem seg_genLoopL {A : Around} {s3 : Shared} {H3 : Hp} {cenv : Env} {fp : List Addr} {pn : List (Addr × Obj)} {tg iter elt : Expr} {scope : Scope} {pos : Pos} {J : It} {it : Addr} {tn : Nat → Heap → Prop} {g : TG} {te : TE} {vs : List Nat} {Qt : Bool → Hp → Prop} {W : Nat → Nat → Hp → Prop}
    (T : Turn X.prog X.w X.K tg J fp it tn) (hc : X.calm = true) (hpa : ∀ p ∈ pn, ∀ b ∈ fp, p.1 ≠ b) (pg : PG (Gx X A s3 H3 cenv fp pn) tg g) (pe : PE (Gx X A s3 H3 cenv fp pn) elt te) (hco : cenv.scope.isCoroutine = false) (turn : WalkL J g te vs σ Qt W) :
    ∀ (n : Nat) (s₀ s : Shared) (i m : Nat) (H : Hp), m < n → Inv (Gx X A s3 H3 cenv fp pn) [] (wipe σ vs) H s → tn i s.heap → (∀ b ∈ fp, H b = none) → W i m H →
      Seg (model X.prog X.w) A (RL (Gx X A s3 H3 cenv fp pn) (wipe σ vs) Qt) (YL (Gx X A s3 H3 cenv fp pn) (wipe σ vs) Qt) n s₀
        (.compLoop (.GeneratorExp elt [⟨tg, iter, [], 0⟩] scope pos) 0 (.ref it) .none cenv) ((model X.prog X.w).den (.compLoop (.GeneratorExp elt [⟨tg, iter, [], 0⟩] scope pos) 0 (.ref it) .none cenv)) [] s := by
  have own0 : ∀ {σ' : L2.St} {H' : Hp} {s' : Shared}, Inv (Gx X A s3 H3 cenv fp pn) [] σ' H' s' → (∀ b ∈ fp, H' b = none) → ∀ b ∈ fp, FpOk (Gx X A s3 H3 cenv fp pn) [] H' b := fun {σ' H' s'} I' n b hb =>
    ⟨n b hb, (I'.ok.exf b hb).1, I'.ok.exfs b hb, .inl hb, (fun x c e => (I'.ok.exf b hb).2 x c e), fun p hp => by
      rcases List.mem_append.mp hp with z | z
      · exact hpa p z b hb
      · cases z⟩
  intro n
  induction n with
  | zero => intro s₀ s i m H hm; exact absurd hm (Nat.not_lt_zero _)
  | succ n ih =>
    intro s₀ s i m H hm I st nf w
    show Seg _ A _ _ _ s₀ _ ((compTurn (.GeneratorExp elt [⟨tg, iter, [], 0⟩] scope pos) 0 (.ref it) .none cenv).onRaise (leaving cenv)) [] s
    rw [compTurn_gen, Sem.onRaise_eq_wrap]
    refine seg_bind_wrap (wpAny_standAt ?_)
    rcases turn i m H w with ⟨stop, q⟩ | ⟨go, Nx, hNx, step⟩
    · refine seg_bind_wrap ?_
      rw [over_genL]
      refine thnF (T.done (Gx X A s3 H3 cenv fp pn) rfl rfl rfl hc i [] s _ H (fun _ _ => False) I (own0 I nf) st stop) fun r s6 ⟨er, I6⟩ => ?_
      subst er
      exact seg_end (.ok .next) (.inl ⟨.inr rfl, H, I6, q⟩)
    · refine seg_bind_wrap ?_
      rw [over_genL]
      refine thnF (T.item (Gx X A s3 H3 cenv fp pn) rfl rfl rfl hc i [] s _ H (fun _ _ => False) I (own0 I nf) st go) fun r s6 ⟨u, er, h6⟩ => ?_
      subst er
      refine seg_bind_wrap ?_
      rw [over_genL]
      refine thnF h6 fun _ s7 ⟨x, H7, I7, r7, y7, st7, n7⟩ => ?_
      have P7 := I7.pinned (own0 I7 n7) (T.obj _ _ st7)
      refine seg_bind_wrap ?_
      rw [over_genL]
      refine thnF (pg.run _ s7 _ H7 x u _ P7 r7 (step x H7 y7)) fun _ s8 ⟨σ8, H8, I8, hw8, q8⟩ => ?_
      refine seg_bind_wrap (wpAny_tests_nil ?_)
      simp only [if_true]
      have hy : ∀ v, yieldOut cenv v = yieldValue v := fun v => by simp only [yieldOut, hco, Bool.false_eq_true, if_false]
      simp only [hy]
      rw [Sem.bind_eq_wrap', Sem.bind_eq_wrap', Sem.wrap_wrap, Sem.wrap_wrap]
      refine seg_wrap ?_
      rw [over_genL]
      refine thnF (pe.run _ s8 σ8 H8 _ I8 q8) fun z s9 ⟨yv, H9, I9, r9, b, ey, q9⟩ => ?_
      subst ey
      obtain rfl : z = Value.bool b := r9
      have hl : (wipe σ vs).length = σ8.length := by rw [← hw8, wipe_length]
      have I9' : Inv (Gx X A s3 H3 cenv fp pn) [] (wipe σ vs) H9 s9 := (I9.unpinned (pins := [])).weak hl fun j v e => by
        rw [← hw8] at e
        exact (wipe_some e).1
      have pin' : ∀ b ∈ fp, ∀ o, s7.heap.get? b = some o → s9.heap.get? b = some o ∧ H9 b = none := fun b hb o e =>
        let z := I9.pin (b, o) (List.mem_append_right _ (List.mem_append_right _ (mem_pinsAt hb e)))
        ⟨z.1, z.2.1⟩
      refine seg_at (seg_yield rfl rfl rfl ⟨b, H9, rfl, I9', fun hb => ?_, fun hb s' e1 e2 e3 => ?_⟩)
      · subst hb
        simpa using q9
      · subst hb
        simp only [if_true] at q9
        obtain ⟨m', lt, w'⟩ := hNx _ q9
        refine seg_again rfl (ih s' s' (i + 1) m' H9 (by omega) (inv_same I9' e1 e2 e3) ?_ (fun b hb => ?_) w')
        · rw [e1]
          exact T.keep _ _ _ st7 fun b hb o e => (pin' b hb o e).1
        · obtain ⟨o, e, _⟩ := T.obj _ _ st7 b hb
          exact (pin' b hb o e).2
theorem seg_genStartL {A : Around} {s3 : Shared} {H3 : Hp} {cenv : Env} {fp : List Addr} {pn : List (Addr × Obj)} {tg iter elt : Expr} {scope : Scope} {pos : Pos} {J : It} {it : Addr} {tn : Nat → Heap → Prop} {g : TG} {te : TE} {vs : List Nat} {Qt : Bool → Hp → Prop} {W : Nat → Nat → Hp → Prop}
    (T : Turn X.prog X.w X.K tg J fp it tn) (hc : X.calm = true) (hpa : ∀ p ∈ pn, ∀ b ∈ fp, p.1 ≠ b) (pg : PG (Gx X A s3 H3 cenv fp pn) tg g) (pe : PE (Gx X A s3 H3 cenv fp pn) elt te) (hco : cenv.scope.isCoroutine = false) (turn : WalkL J g te vs σ Qt W)
    (n : Nat) (s₀ s : Shared) (m : Nat) (H : Hp) (hm : m < n) (I : Inv (Gx X A s3 H3 cenv fp pn) [] (wipe σ vs) H s) (st : tn 0 s.heap) (nf : ∀ b ∈ fp, H b = none) (w : W 0 m H) :
      Seg (model X.prog X.w) A (RL (Gx X A s3 H3 cenv fp pn) (wipe σ vs) Qt) (YL (Gx X A s3 H3 cenv fp pn) (wipe σ vs) Qt) n s₀
        (.compStart (.GeneratorExp elt [⟨tg, iter, [], 0⟩] scope pos) 0 (.ref it) .none cenv) ((model X.prog X.w).den (.compStart (.GeneratorExp elt [⟨tg, iter, [], 0⟩] scope pos) 0 (.ref it) .none cenv)) [] s := by
  have loop := seg_genLoopL (iter := iter) (scope := scope) (pos := pos) T hc hpa pg pe hco turn n s₀ s 0 m H hm I st nf w
  show Seg _ A _ _ _ s₀ _ ((compStart (.GeneratorExp elt [⟨tg, iter, [], 0⟩] scope pos) 0 (.ref it) .none cenv).onRaise (leaving cenv)) [] s
  unfold compStart
  rw [Sem.onRaise_eq_wrap]
  show Seg _ A _ _ _ s₀ _ ((ask >>= _).wrap _ _ _ _) [] s
  refine seg_bind_wrap (wpAny_askSetting ?_)
  split
  · exact seg_again rfl loop
  · first
      | exact seg_bind_wrap (wpAny_rule (seg_bind_wrap (wpAny_standAt (seg_bind_wrap (T.self _ 0 s _ _ st (seg_again rfl loop))))))
      | (refine seg_bind_wrap (wpAny_rule ?_); show Seg _ A _ _ _ s₀ _ ((standAt iter.pos >>= _).wrap _ _ _ _) [] s; exact seg_bind_wrap (wpAny_standAt (seg_bind_wrap (T.self _ 0 s _ _ st (seg_again rfl loop)))))
end
end LW
namespace LW
open PySem PySem.Spec PyProof.Rows L2 GxR GenW
section
variable {P : Program} {w : World}
/-- all's loop over a generator that hands out bools -/
theorem all_loopL {Y : Cx} {τ : L2.St} {Qt : Bool → Hp → Prop} {A : Around} {a : Addr} {g : Nat} {R : Result → Shared → Prop} (hh : A.handled = none) (hd : A.depth < recursionLimit)
    (hg : ∀ (s : Shared) (H : Hp), Inv Y [] τ H s → s.heap.IsGen a g) (hend : ∀ b H (s' : Shared), Inv Y [] τ H s' → Qt b H → R (.ok (.ret (.bool b))) s') :
    ∀ (n : Nat) (s : Shared), s.heap.IsGen a g → s.heap.NoLimit → (∃ gs, s.gens[g]? = some gs ∧ gs.Goes (model P w) A.in1.in1 (RL Y τ Qt) (YL Y τ Qt) n (.send .none) (s.setGen g .running)) →
      codeAny (model P w) A (.builtin "all.loop" ⟨[.ref a], []⟩) R s := by
  intro n
  induction n with
  | zero =>
    intro s hgen hl ⟨gs, hgs, hgo⟩
    refine codeAny_builtin F.entry_all_loop ?_
    rw [Around.under_plainId F.plain_all_loop _]
    show wpAny _ A.in1 (pyNext (.ref a) >>= _) _ _ s
    refine wpAny_bind (next_genG (A := A.in1) (F := FL Y τ Qt) (Er := fun _ _ => False) hh hl hd hgen hgs hgo (fun v s₁ gs' hbare hv => ?_) (fun s₁ hp h' hk => ?_) fun e s₁ he => he.elim)
    · obtain ⟨b, H1, rfl, I1, hf, ht⟩ := hv
      cases b with
      | true => exact False.elim (ht rfl s₁ rfl rfl I1.bare)
      | false =>
        refine wpAny_bind (wpAny_holding (wpAny_truthy_bool (wpAny_bind (wpAny_letGo ?_))))
        simp only [Bool.false_eq_true, if_false]
        exact wpAny_bind (wpAny_rule (wpAny_pure (hend false H1 _ (inv_same I1 rfl rfl (allBare_setGen I1.bare hbare)) (hf rfl))))
    · obtain ⟨H1, I1, q⟩ := hp
      refine wpAny_bind (wpAny_rule (wpAny_pure (hend true H1 _ ?_ q)))
      exact I1.call' (ch := []) rfl (Un.kept hk) (I1.hok.kept hk) (allBare_setGen I1.bare rfl) fun b hb => by cases hb
  | succ n ih =>
    intro s hgen hl ⟨gs, hgs, hgo⟩
    have hgl : g < s.gens.size := (Array.getElem?_eq_some_iff.mp hgs).1
    refine codeAny_builtin F.entry_all_loop ?_
    rw [Around.under_plainId F.plain_all_loop _]
    show wpAny _ A.in1 (pyNext (.ref a) >>= _) _ _ s
    refine wpAny_bind (wpAny_gsz (n := g + 1) hgl (next_genG (A := A.in1) (F := FL Y τ Qt) (Er := fun _ _ => False) hh hl hd hgen hgs hgo (fun v s₁ gs' hbare hv => ?_) (fun s₁ hp h' hk => ?_) fun e s₁ he => he.elim))
    · intro hsz
      obtain ⟨b, H1, rfl, I1, hf, ht⟩ := hv
      have hsz1 : g < s₁.gens.size := by
        have q : (s₁.setGen g gs').gens.size = s₁.gens.size := setGen_size _ _ _
        have hsz' : g + 1 ≤ (s₁.setGen g gs').gens.size := hsz
        omega
      cases b with
      | true =>
        refine wpAny_bind (wpAny_holding (wpAny_truthy_bool (wpAny_bind (wpAny_letGo ?_))))
        simp only [if_true]
        refine wpAny_pure ⟨plainId_quiet F.plain_all_loop _, ih _ ?_ ?_ ⟨gs', setGen_at hsz1, ?_⟩⟩
        · exact hg s₁ H1 I1
        · exact I1.nolimit
        · exact ht rfl ((s₁.setGen g gs').setGen g .running) rfl rfl (allBare_setGen (s := s₁.setGen g gs') (allBare_setGen I1.bare hbare) rfl)
      | false =>
        refine wpAny_bind (wpAny_holding (wpAny_truthy_bool (wpAny_bind (wpAny_letGo ?_))))
        simp only [Bool.false_eq_true, if_false]
        exact wpAny_bind (wpAny_rule (wpAny_pure (hend false H1 _ (inv_same I1 rfl rfl (allBare_setGen I1.bare hbare)) (hf rfl))))
    · intro hsz
      obtain ⟨H1, I1, q⟩ := hp
      refine wpAny_bind (wpAny_rule (wpAny_pure (hend true H1 _ ?_ q)))
      exact I1.call' (ch := []) rfl (Un.kept hk) (I1.hok.kept hk) (allBare_setGen I1.bare rfl) fun b hb => by cases hb
end
section
variable {X : Cx} {pins : List (Addr × Obj)} {σ : L2.St} {H : Hp} {s : Shared}
def tAllL (T : Addr) (wi : TI) (g : TG) (te : TE) (vs : List Nat) : TE := fun σ H Q => wi σ H fun J H1 => TabG H1 T ∧ ∀ H2, Tabbed T H1 H2 →
  ∃ W : Nat → Nat → Hp → Prop, (∃ m, W 0 m H2) ∧ WalkL J g te vs σ (fun b H => Q (.bl b) H) W
/-- a generator of bools has been made, and is ready to be asked -/
def ReadyL (X : Cx) (k : Nat) (pins : List (Addr × Obj)) (σ τ : L2.St) (Qt : Bool → Hp → Prop) (a : Addr) (s : Shared) : Prop :=
  ∃ g n gs, s.heap.IsGen a g ∧ s.heap.NoLimit ∧ s.gens[g]? = some gs ∧ ∀ A : Around, Room k A → A.frames = some X.stack → ∃ Y : Cx,
    (∀ (s : Shared) (H : Hp), Inv Y [] τ H s → s.heap.IsGen a g) ∧ (∀ (s : Shared) (H : Hp), Inv Y [] τ H s → Inv X pins σ H s) ∧ gs.Goes (model X.prog X.w) A (RL Y τ Qt) (YL Y τ Qt) n (.send .none) (s.setGen g .running)
theorem gen_makeL {c T : Addr} {e iter tg : Expr} {gp : Pos} {sc : Scope} {own : List (Str × Nat)} {wi : TI} {g : TG} {te : TE} {k : Nat} {Q : VK} {Q' : Value → Shared → Prop}
    (hr : Room (k + 1) X.A) (hcm : X.calm = true) (hN : X.N.Nodup) (B : TabB X.base X.mg c T) (hc : X.env.code = .ref c) (ok : GBlk X.N X.env.scope sc own) (hi : PI X tg iter wi)
    (hpg : ∀ A s H C code fp pn, PG (Gx X A s H (gEnv X sc C code) fp pn) tg g) (he : ∀ A s H C code fp pn, Room k (A.deeper (gEnv X sc C code)) → PE (Gx X A s H (gEnv X sc C code) fp pn) e te)
    (hs : ∀ v, genFold iter X.env v = pure v) (I : Inv X pins σ H s) (h : tAllL T wi g te (own.map (·.2)) σ H Q)
    (q : ∀ a s5, ReadyL X (k + 1) pins σ (wipe σ (own.map (·.2))) (fun b H => Q (.bl b) H) a s5 → Q' (.ref a) s5) :
    wpAny (model X.prog X.w) X.A (eval (.GeneratorExp e [⟨tg, iter, [], 0⟩] sc gp) X.env) Q' X.xe s := by
  have room : X.A.depth < recursionLimit := hr.depth
  have hfree : ∀ y ∈ sc.names, y.2 = .free → ∃ c, X.env.cells.lookup y.1 = some c := fun y hy e => (ok.blk.free y hy e).elim (fun k => I.ok.has _ (.inl k)) (fun k => I.ok.has _ (.inr k))
  refine wpAny_GeneratorExp_make ok.co (closure_ok hfree) ok.cell ok.dot ok.blk.kind room (thn (hi.run pins s σ H _ I h) fun xv s1 h1 => thn h1 fun itv s2 h2 => ?_) hs
  obtain ⟨it, fp, tn, J, H2, rfl, I2, Tn, st2, f2, ⟨ps, hT, tr⟩, hw⟩ := h2
  have oT : s2.heap.get? T = some { cls := .none, data := .fields ps } := I2.hok T _ hT
  have ltT := Heap.lt_size oT
  have cd : PySem.W.CodeHd s2.heap c T := B.code.keeps fun b u hb => I2.bk b u hb
  have goG : ∃ og, s2.heap.get? mainGlobals = some og ∧ mainGlobals ≠ T := by
    obtain ⟨og, _, _, eg, _⟩ := I2.mod.glob
    exact ⟨og, I2.bk _ _ eg, B.gP⟩
  obtain ⟨og, gg, gT⟩ := goG
  have nsG : s2.heap.Ns mainGlobals X.mg := I2.mod.glob.keeps I2.bk
  refine ⟨I2.nolimit, ?_⟩
  have rest : ∀ (cv : Value) (h3 : Heap) (tk : Nat) (more : Array Value), Heap.ExtBut T s2.heap h3 → s2.heap.objs.size ≤ h3.objs.size →
      h3.get? T = some { cls := .none, data := .fields (ps ++ more) } → TriplesOk (ps ++ more).toList →
      wpAny (model X.prog X.w) X.A (builtinsFor X.env.globals X.env.builtins) (fun bi s₄ =>
        ∀ h', h'.Ns s₄.heap.objs.size (fun y => if y = (".0" : Str) then some (.ref it) else none) → Heap.SameBut s₄.heap.objs.size (s₄.heap.push { cls := .type "frame", data := .dict #[] }) h' →
          Q' (.ref h'.objs.size) { s₄ with
            gens := s₄.gens.push (.fresh (.compStart (.GeneratorExp e [⟨tg, iter, [], 0⟩] sc gp) 0 (.ref it) .none (genEnv sc (cloFrom X.env.cells sc.names []) s₄.heap.objs.size cv bi X.env))),
            toks := s₄.toks + 1 + 1 + 1,
            heap := h'.push { cls := .type "generator", data := .fields #[.int s₄.gens.size 0, .str "<genexpr>" (s₄.toks + 1), .str (X.env.qual ++ "<genexpr>") (s₄.toks + 1 + 1)] } }) X.xe { s2 with heap := h3, toks := tk } := by
    intro cv h3 tk more ext hz hT3 tr3
    have old : ∀ b u, b ≠ T → s2.heap.get? b = some u → h3.get? b = some u := fun b u n eu => ext b u n eu
    obtain ⟨bm, ob, m1, m2, m3, m4, m5, m6, m7, m8⟩ := B.bm
    have g3 : h3.Ns mainGlobals X.mg := ns_at nsG fun u hu => old _ u gT hu
    refine wpAny_builtinsFor (m := X.mg) (by rw [I2.ok.glob]; exact g3) m1 m2 (old _ _ m4 (I2.bk _ _ m5)) m6 m7 m8 ?_
    have I3 : Inv X pins σ (upd H2 T (.tbl (ps ++ more))) { s2 with heap := h3, toks := tk } := inv_tab (more := more) (h' := h3) (g' := s2.gens) (d' := s2.drawn) (t' := tk) I2 hT old hT3 I2.bare
    generalize e3 : ({ s2 with heap := h3, toks := tk } : Shared) = s3 at I3 ⊢
    have hp3 : s3.heap = h3 := by rw [← e3]
    have tb : Tabbed T H2 (upd H2 T (.tbl (ps ++ more))) := ⟨⟨ps ++ more, upd_same, tr3⟩, fun b n => upd_ne n⟩
    obtain ⟨W, ⟨m0, w0⟩, turn⟩ := hw _ tb
    generalize eH : upd H2 T (.tbl (ps ++ more)) = H3 at I3 tb w0
    have nT : ∀ b ∈ fp, b ≠ T := fun b hb z => by
      have := (f2 b hb).1
      rw [z, hT] at this
      cases this
    have f3 : ∀ b ∈ fp, FpOk X pins H3 b ∧ b < s3.heap.objs.size := fun b hb => by
      obtain ⟨o, eo, _⟩ := Tn.obj _ _ st2 b hb
      refine ⟨⟨?_, (f2 b hb).2⟩, by rw [hp3]; exact Nat.lt_of_lt_of_le (Heap.lt_size eo) hz⟩
      rw [← eH, upd_ne (nT b hb)]
      exact (f2 b hb).1
    have st3 : tn 0 s3.heap := Tn.keep _ _ _ st2 fun b hb o e => by rw [hp3]; exact old b o (nT b hb) e
    intro h' hn' hs'
    have hsz : h'.objs.size = s3.heap.objs.size + 1 := by rw [hs'.1, Heap.size_push]
    have keep' : ∀ b o, s3.heap.get? b = some o → h'.get? b = some o := fun b o e => hs'.extBut b o (Nat.ne_of_lt (Heap.lt_size e)) (Heap.get?_push_of_some _ e)
    obtain ⟨go, hgo⟩ : ∃ go : Obj, go = { cls := .type "generator", data := .fields #[.int s3.gens.size 0, .str "<genexpr>" (s3.toks + 1), .str (X.env.qual ++ "<genexpr>") (s3.toks + 1 + 1)] } := ⟨_, rfl⟩
    rw [← hgo]
    have hgen : ∀ h : Heap, h.get? h'.objs.size = some go → h.IsGen h'.objs.size s3.gens.size := fun h e => ⟨_, _, _, e, by rw [hgo], by rw [hgo], by rw [hgo]⟩
    have hpush : (h'.push go).get? h'.objs.size = some go := Heap.get?_push_size _ (by rw [hgo]; rfl)
    refine q _ _ ⟨s3.gens.size, m0 + 1, _, hgen _ hpush, I3.nolimit.keeps fun b o e => Heap.get?_push_of_some _ (keep' b o e), Array.getElem?_push_size .., fun A hA hfr => ?_⟩
    refine ⟨Gx X A s3 H3 (gEnv X sc s3.heap.objs.size cv) fp [(h'.objs.size, go)], fun s6 H6 I6 => ?_, fun s6 H6 I6 => gen_back I3 (fun b hb => (f3 b hb).1) I6, rfl, ?_⟩
    · exact hgen _ (I6.pin (h'.objs.size, go) (List.mem_append_left _ (List.mem_singleton.mpr rfl))).1
    · refine seg_genStartL Tn hcm (fun p hp b hb => ?_) (hpg A s3 H3 s3.heap.objs.size cv fp _) (he A s3 H3 s3.heap.objs.size cv fp _ (hA.deeper _)) ok.co turn (m0 + 1) _ _ m0 H3 (Nat.lt_succ_self _)
        (gen_start I3 ok hN f3 hA.hd hfr hn' keep' (by rw [hsz]; exact Nat.lt_succ_self _) (fun v z => by rw [hgo] at z; cases z) hpush rfl rfl (allBare_setGen (AllBare.push I3.bare rfl) rfl)) ?_ (fun b hb => (f3 b hb).1.1) w0
      · rw [List.mem_singleton.mp hp]
        have := (f3 b hb).2
        exact Nat.ne_of_gt (by show b < h'.objs.size; rw [hsz]; exact Nat.lt_succ_of_lt this)
      · exact Tn.keep _ _ _ st3 fun b hb o e => Heap.get?_push_of_some _ (keep' b o e)
  cases hf : codeAmong gp ps.toList with
  | some cv =>
    refine wpAny_genexprCode_hit hc (cd.code oT tr) hf ?_
    exact rest cv s2.heap s2.toks #[] (Heap.ExtBut.refl _ _) (Nat.le_refl _) (by rw [oT]; simp) (by simpa using tr)
  | none =>
    refine wpAny_genexprCodeX hc (cd.code oT tr) (cd.tab oT) hf ?_
    intro c' h' tk ext ge lt isC _ htab _
    obtain ⟨o1, vs, f1, tf, fl, tg', inF, tx, tt, op, _, _, _, _, _, _, _, _, _, tr3, _⟩ := isC
    exact rest _ h' tk _ ext (Nat.le_trans ge (Nat.le_of_lt lt)) htab.2 tr3
/-- all(f(x) for x in xs), the elements bools that calls may give -/
theorem pe_allL {c T : Addr} {e iter tg : Expr} {p pos gp : Pos} {sc : Scope} {own : List (Str × Nat)} {wi : TI} {g : TG} {te : TE} {k : Nat}
    (hr : Room (k + 2) X.A) (hcm : X.calm = true) (hN : X.N.Nodup) (hg : Gl X "all") (hm : X.mg "all" = none) (B : TabB X.base X.mg c T) (hc : X.env.code = .ref c) (ok : GBlk X.N X.env.scope sc own) (hi : PI X tg iter wi)
    (hpg : ∀ A s H C code fp pn, PG (Gx X A s H (gEnv X sc C code) fp pn) tg g) (he : ∀ A s H C code fp pn, Room k (A.deeper (gEnv X sc C code)) → PE (Gx X A s H (gEnv X sc C code) fp pn) e te)
    (hs : ∀ v, genFold iter X.env v = pure v := by intro _; rfl)
    (ha : starEach [.GeneratorExp e [⟨tg, iter, [], 0⟩] sc gp] X.env = (false, eval (.GeneratorExp e [⟨tg, iter, [], 0⟩] sc gp) X.env) :: starEach [] X.env := by rfl) :
    PE X (.Call (.Name "all" p) [.GeneratorExp e [⟨tg, iter, [], 0⟩] sc gp] [] pos) (tAllL T wi g te (own.map (·.2))) := by
  constructor
  intro pins s σ H Q I h
  refine wpAny_Call_Name_kw (ld_blt I hg hm (u := .builtin "all") (by decide +kernel) ?_)
  refine PyProof.Rows.callWith_builtin1 ?_ ha (by rfl)
  rw [ha]
  show wpAny _ _ (spliced ((false, eval (.GeneratorExp e [⟨tg, iter, [], 0⟩] sc gp) X.env) :: backTo pos (starEach [] X.env))) _ _ s
  refine Calls.spliced_cons (gen_makeL (hr.mono (Nat.le_succ _)) hcm hN B hc ok hi hpg he hs I h fun a s5 hR => ?_)
  obtain ⟨gn, n, gs, hgen, hl, hgs, wake⟩ := hR
  refine Calls.spliced_nil ?_
  refine call_function_tree F.kind_all F.plain_all F.entry_all (F.args_all1 _) ?_
  unfold Builtin.«all»
  refine wpAny_bind (m := oneArg "all" _) (wpAny_pure ?_)
  refine wpAny_bind (wpAny_pyIter_gen hgen ?_)
  obtain ⟨Y, y1, y2, y3⟩ := wake X.A.in1.in1 ⟨hr.hd, by have := hr.dp; show X.A.depth + 3 * (k + 1) + 5 < _; omega, by have := hr.un; show X.A.units + 1 + 1 + 16 * (k + 1) + 200 < _; omega⟩ I.ok.frames
  exact wpAny_pure ⟨plainId_quiet F.plain_all_loop _, all_loopL hr.hd hr.depth y1 (fun b H1 s' I1 q => ⟨.bl b, H1, y2 _ _ I1, rfl, q⟩) n s5 hgen hl ⟨gs, hgs, y3⟩⟩
end
/-- over a list that the elements leave as it is -/
theorem wl_list {K : PySem.W.Frag} {a : Addr} {xs : List V} {g : TG} {te : TE} {vs : List Nat} {σ : L2.St} {H2 : Hp} {Qt : Bool → Hp → Prop} (Pv : Nat → Hp → Prop) (h0 : Pv 0 H2) (hl : ∀ i H, i ≤ xs.length → Pv i H → SqL K H a xs)
    (hs : ∀ i x H, xs[i]? = some x → Pv i H → g x (wipe σ vs) H fun σ2 H3 => wipe σ2 vs = wipe σ vs ∧ te σ2 H3 fun y H4 => ∃ b, y = .bl b ∧ if b = true then Pv (i + 1) H4 else Qt false H4) (hd : ∀ H, Pv xs.length H → Qt true H) :
    ∃ W : Nat → Nat → Hp → Prop, (∃ m, W 0 m H2) ∧ WalkL (Itl K a) g te vs σ Qt W := by
  refine ⟨fun i m H => m = xs.length - i ∧ i ≤ xs.length ∧ Pv i H, ⟨xs.length, by simp, Nat.zero_le _, h0⟩, ?_⟩
  rintro i m H ⟨rfl, hi, p⟩
  have q := hl i H hi p
  by_cases hlt : i < xs.length
  · refine .inr ⟨⟨xs, xs[i], q, by simp [hlt]⟩, Pv (i + 1), fun H' p' => ⟨xs.length - (i + 1), by omega, rfl, hlt, p'⟩, fun x H' y => ?_⟩
    obtain ⟨e, y⟩ := y
    subst e
    exact hs i x _ (y xs q) p
  · have e : i = xs.length := by omega
    subst e
    exact .inl ⟨⟨xs, q, Nat.le_refl _⟩, hd H p⟩
end LW
namespace LW
open PySem PySem.Spec PyProof.Rows L2 GxR
def topS (i : Nat) : Stmt := PySem.Challenge.pw_layerwharf_k03_whole_blobs.main.body.getD i (.Pass ⟨0, 0, 0, 0⟩)
def kinds : List Str := ["layer", "image", "bundle"]
/-! ### what the top holds -/
structure Tx (K : PySem.W.Frag) (mg : Str → Option Value) (cM cR cU : Addr) : Prop where
  len : mg "len" = none
  int : mg "int" = none
  abs : mg "abs" = none
  all : mg "all" = none
  range : mg "range" = none
  isi : mg "isinstance" = none
  str : mg "str" = none
  bool : mg "bool" = none
  list : mg "list" = none
  enum : mg "enumerate" = none
  sup : mg "super" = none
  val : mg "ValueError" = none
  MAL : mg "Malformed" = some (.ref cM)
  REF : mg "Refused" = some (.ref cR)
  STO : mg "Store" = some (.ref cU)
  sC : Cls K cU
  nB : NoAttr K cU "_blobs"
  ord : mg "ord" = none
  rep : mg "repr" = none
  sor : mg "sorted" = none
  KINDS : ∃ kd, mg "KINDS" = some (.ref kd) ∧ ∃ (o : Obj) (its : Array Value) (n : Nat), K.lookup kd = some o ∧ o.cls = .type "tuple" ∧ o.dict = none ∧ o.data = .seq its n ∧ its.size ≤ sizeLine ∧ Vals (kinds.map V.str) its.toList
  FACTOR : ∃ t, mg "_FACTOR" = some (.int 257 t)
  MODULUS : ∃ t, mg "_MODULUS" = some (.int 2305843009213693951 t)
  DIGITS : ∃ t, mg "_DIGITS" = some (.str "0123456789abcdef" t)
  LENGTH : ∃ t, mg "_LENGTH" = some (.int 16 t)
  IMAGE : ∃ t, mg "_IMAGE" = some (.str "image" t)
  BUNDLE : ∃ t, mg "_BUNDLE" = some (.str "bundle" t)
  MOST : ∃ t, mg "_MOST_LINES" = some (.int 50 t)
  LETTERS : ∃ t, mg "_LETTERS" = some (.str "abcdefghijklmnopqrstuvwxyz" t)
  LONGEST : ∃ t, mg "_LONGEST_PLATFORM" = some (.int 10 t)
abbrev s_is_address : Stmt := topS 7
abbrev N_is_address : List Str := ["text"]
abbrev P_is_address : List Str := ["text"]
theorem sc_is_address : FnScope N_is_address P_is_address (defScope s_is_address) := ⟨rfl, rfl, rfl, by decide +kernel, rfl, by decide +kernel, by decide +kernel⟩
abbrev s_is_platform : Stmt := topS 24
abbrev N_is_platform : List Str := ["text"]
abbrev P_is_platform : List Str := ["text"]
theorem sc_is_platform : FnScope N_is_platform P_is_platform (defScope s_is_platform) := ⟨rfl, rfl, rfl, by decide +kernel, rfl, by decide +kernel, by decide +kernel⟩
/-- yes or no; the def's table of code may have grown -/
def spYes (p : Str → Bool) (B : Addr) : Sp := fun vs H Q _ => ∃ t : Str, vs = [.str t] ∧ t.length ≤ sizeLine ∧ TabG H B ∧ ∀ H', Gr H H' → Q (.bl (p t)) H'
abbrev s_init : Stmt := inClass (topS 10) 0
abbrev N_init : List Str := ["self", "line"]
abbrev P_init : List Str := ["self", "line"]
theorem sc_init : SupScope N_init P_init (defScope s_init) := ⟨rfl, rfl, rfl, by decide +kernel, rfl, by decide +kernel, by decide +kernel, by decide +kernel⟩
/-- Malformed.__init__: the exception at a has its line -/
def spInit (C : Addr) : Sp := fun vs H Q _ => ∃ (a : Addr) (n : Nat), vs = [.ref a, .int (n : Int)] ∧ n < 1000000 ∧ H a = some (exo a C none) ∧
  ∀ dx, H dx = none → dx ≠ a → Q .non (upd (upd H dx (exd dx [(("line" : Str), .int (n : Int))])) a (exo a C (some dx)))
section
variable {P : Program} {w : World} {K : PySem.W.Frag} {mg : Str → Option Value} {base : Heap} {cM cR cU : Addr}
theorem len_eq16 (t : Str) : decide (V.int (t.length : Nat) = V.int 16) = decide (t.length = 16) := by
  apply decide_eq_decide.mpr
  constructor
  · intro h; injection h with h; omega
  · intro h; rw [h]; rfl
theorem ok_is_address {f c B : Addr} {fd : FuncData} (F : FunC K "is_address" "is_address" s_is_address f fd c) (T : Tx K mg cM cR cU) (TB : TabB base mg c B) : FnOk P w K mg base CX0 1 f fd P_is_address (spYes isAddr B) := by
  refine F.ok sc_is_address (fun vs H Q E h => ?_) (fun A outer s H vs Q E hr h => ?_)
  · obtain ⟨t, rfl, _⟩ := h
    rfl
  · obtain ⟨t, rfl, hl, hB, q⟩ := h
    obtain ⟨tl, cL⟩ := T.LENGTH
    obtain ⟨td, cD⟩ := T.DIGITS
    refine ⟨_, pss_one (ps_ret (pe_and (pe_cmpR op_eq (pe_callB call_len_str (by rfl) T.len (by decide +kernel) (pa_cons (pv 0) pa_nil)) (pe_glob (v := .int 16) (by rfl) cL ⟨_, rfl⟩) (nomark _))
      (pe_one (pe_allG hr (by rfl) T.all TB rfl ⟨rfl, rfl, by decide +kernel, rfl, rfl, no_free (by decide +kernel)⟩ (pv 0) (elt_inG rfl rfl rfl cD))))), ?_⟩
    refine ⟨_, rfl, t, rfl, hl, rfl, _, rfl, ?_⟩
    rw [len_eq16]
    cases e2 : decide (t.length = 16) with
    | false =>
      rw [if_neg Bool.false_ne_true]
      have := q H (Gr.refl H)
      unfold isAddr at this
      rw [e2] at this
      exact this
    | true =>
      rw [if_pos rfl]
      refine ⟨_, rfl, t, rfl, hB, fun H2 hT => ?_⟩
      have := q H2 (Gr.of_tab hB hT)
      unfold isAddr at this
      rw [e2, Bool.true_and] at this
      rw [digits_eq]
      exact this
theorem ok_is_platform {f c B : Addr} {fd : FuncData} (F : FunC K "_is_platform" "_is_platform" s_is_platform f fd c) (T : Tx K mg cM cR cU) (TB : TabB base mg c B) : FnOk P w K mg base CX0 1 f fd P_is_platform (spYes isPlat B) := by
  refine F.ok sc_is_platform (fun vs H Q E h => ?_) (fun A outer s H vs Q E hr h => ?_)
  · obtain ⟨t, rfl, _⟩ := h
    rfl
  · obtain ⟨t, rfl, hl, hB, q⟩ := h
    obtain ⟨tl, cL⟩ := T.LONGEST
    obtain ⟨td, cD⟩ := T.LETTERS
    refine ⟨_, pss_one (ps_ret (pe_and (pe_chain op_le op_le pe_int (pe_callB call_len_str (by rfl) T.len (by decide +kernel) (pa_cons (pv 0) pa_nil)) (pe_glob (v := .int 10) (by rfl) cL ⟨_, rfl⟩))
      (pe_one (pe_allG hr (by rfl) T.all TB rfl ⟨rfl, rfl, by decide +kernel, rfl, rfl, no_free (by decide +kernel)⟩ (pv 0) (elt_inG rfl rfl rfl cD))))), ?_⟩
    refine ⟨_, rfl, t, rfl, hl, _, _, rfl, rfl, _, rfl, ?_⟩
    have d1 : decide ((1 : Int) ≤ ((t.length : Nat) : Int)) = decide (1 ≤ t.length) := decide_eq_decide.mpr (by omega)
    have d2 : decide (((t.length : Nat) : Int) ≤ 10) = decide (t.length ≤ 10) := decide_eq_decide.mpr (by omega)
    rw [d1]
    cases e1 : decide (1 ≤ t.length) with
    | false =>
      rw [if_neg Bool.false_ne_true]
      refine ⟨_, rfl, ?_⟩
      rw [if_neg Bool.false_ne_true]
      have := q H (Gr.refl H)
      unfold isPlat at this
      rw [e1] at this
      exact this
    | true =>
      rw [if_pos rfl]
      refine ⟨_, _, rfl, rfl, _, rfl, ?_⟩
      rw [d2]
      cases e2 : decide (t.length ≤ 10) with
      | false =>
        rw [if_neg Bool.false_ne_true]
        have := q H (Gr.refl H)
        unfold isPlat at this
        rw [e1, e2] at this
        exact this
      | true =>
        rw [if_pos rfl]
        refine ⟨_, rfl, t, rfl, hB, fun H2 hT => ?_⟩
        have := q H2 (Gr.of_tab hB hT)
        unfold isPlat at this
        rw [e1, e2, Bool.and_self, Bool.true_and] at this
        rw [letters_eq]
        exact this
/-- Malformed.__init__ as it stands -/
structure InitAt (P : Program) (K : PySem.W.Frag) (C f cc cda : Addr) (fd : FuncData) : Prop where
  S : SupAt P K C cc cda
  ex : ∃ (oc : Value) (od : Option Addr) (kV doc pm : Value) (an : Option Addr) (ct : Value) (osl : Array (Option Value)),
    fd = PySem.W.ksFn "__init__" "Malformed.__init__" (defArgs s_init) (defBody s_init) (defScope s_init) .none kV doc pm an (.ref cda) ct cc ∧ K.lookup f = some ⟨oc, od, .func fd, osl⟩ ∧ PySem.W.codeIn K (.ref cda) "Malformed.__init__" = true
  noL : PySem.W.findIn K (.ref C) "line" = some none
theorem ok_init {f cc cda : Addr} {fd : FuncData} (F : InitAt P K cM f cc cda fd) (T : Tx K mg cM cR cU) : FnOk P w K mg base CX0 1 f fd P_init (spInit cM) := by
  obtain ⟨oc, od, kV, doc, pm, an, ct, osl, e, lk, hcd⟩ := F.ex
  subst e
  obtain ⟨cl, cld, csl, hcell⟩ := F.S.cell
  refine fn_sup lk hcd hcell rfl sc_init (fun vs H Q E h => ?_) (fun A outer s H vs Q E s1 hr h I => ?_)
  · obtain ⟨a, n, rfl, _⟩ := h
    rfl
  · obtain ⟨a, n, rfl, hn, ha, q⟩ := h
    refine sup_init (i := 0) (R := fun H1 => H1 = H) F.S I T.sup lk rfl rfl rfl rfl rfl rfl rfl rfl rfl rfl ha (pa_cons (pe_joined (PJ.cons pe_str (PJ.cons (pe_fmt (pv 1)) (PJ.cons pe_str PJ.nil)))) pa_nil) ?_ ?_ rfl
    · have hlog : ((n : Int).natAbs).log2 < 1920 := by
        rw [Int.natAbs_natCast]
        rcases Nat.eq_zero_or_pos n with h0 | h0
        · rw [h0]; decide
        · rw [Nat.log2_lt (by omega)]
          exact Nat.lt_of_lt_of_le hn (Nat.le_trans (show (1000000 : Nat) ≤ 2 ^ 20 by decide) (Nat.pow_le_pow_right (by decide) (by decide)))
      have hnl : (toString (n : Int) : Str).length ≤ 6 := by
        rw [TL.len_tl, TL.tl_num]
        exact TL.numL_len (by decide) hn
      have l1 : ∀ x y : Str, (x ++ y).length = x.length + y.length := fun x y => by rw [TL.len_tl, TL.len_tl, TL.len_tl, TL.tl_append, List.length_append]
      refine ⟨_, rfl, by decide +kernel, _, rfl, .inr ⟨_, rfl, hlog, _, rfl, ?_, _, rfl, ?_, ?_⟩⟩
      · rw [l1, l1]
        have e : (Str.empty : Str).length + (Str.ofString "line ").length = 5 := by decide +kernel
        rw [sizeLine_eq]
        omega
      · rw [l1, l1, l1]
        have e : (Str.empty : Str).length + (Str.ofString "line ").length = 5 := by decide +kernel
        have e2 : (Str.ofString " is malformed").length = 13 := by decide +kernel
        rw [sizeLine_eq]
        omega
      · exact ⟨by show 1 ≤ 1000; decide, ha, rfl⟩
    · rintro H1 s2 I2 rfl ha1
      refine (pss_one (ps_ost (pv 0) (pv 1))).run [] s2 _ _ _ I2 ?_
      exact ⟨_, rfl, _, rfl, a, cM, rfl, F.S.T, F.noL, .inl ⟨ha1, fun dx n1 n2 => q dx n1 n2⟩⟩
end
end LW
namespace LW
open PySem PySem.Spec PyProof.Rows L2 GxR
/-- what raise Malformed(n) asks -/
theorem mal_end {C : Addr} {H1 : Hp} {n : Nat} {Q : XK} (hn : n < 1000000) (q : ∀ d H', H1 d = none → Same H1 H' → H' d = some (.xd [(("line" : Str), .int (n : Int))]) → Q (.ref C) (some d) H') :
    [V.int (n : Int)].length ≤ 1000 ∧ ∀ a, H1 a = none → spInit C (.ref a :: ([V.int (n : Int)] ++ [])) (upd H1 a (exo a C none))
      (fun v H2 => v = .non ∧ ∃ (d : Addr) (fs : List (Str × V)), H2 a = some (exo a C (some d)) ∧ H2 d = some (exd d fs) ∧ H1 d = none ∧ Q (.ref C) (some d) (upd (del H2 a) d (.xd fs))) (fun _ _ _ => False) := by
  refine ⟨by show 1 ≤ 1000; decide, fun a na => ⟨a, n, rfl, hn, upd_same, fun dx n1 n2 => ⟨rfl, dx, [(("line" : Str), .int (n : Int))], upd_same, ?_, ?_, ?_⟩⟩⟩
  · rw [upd_ne n2, upd_same]
  · rw [← n1, upd_ne n2]
  · have nd : H1 dx = none := by rw [← n1, upd_ne n2]
    refine q dx _ nd (fun b o e => ?_) upd_same
    rw [upd_ne (ne_of_none e nd), del_ne (ne_of_none e na), upd_ne (ne_of_none e na), upd_ne (ne_of_none e nd), upd_ne (ne_of_none e na)]
    exact e
abbrev s_text_of : Stmt := topS 22
abbrev N_text_of : List Str := ["word", "lines", "line"]
abbrev P_text_of : List Str := ["word", "lines"]
theorem sc_text_of : FnScope N_text_of P_text_of (defScope s_text_of) := ⟨rfl, rfl, rfl, by decide +kernel, rfl, by decide +kernel, by decide +kernel⟩
def spTextOf (K : PySem.W.Frag) : Sp := fun vs H Q _ => ∃ (w0 : Str) (l : Addr) (ls : List Str), vs = [.str w0, .ref l] ∧ SqL K H l (ls.map V.str) ∧ ls.length ≤ 100 ∧ (∀ x ∈ w0 :: ls, x.length ≤ 1000) ∧ ∀ H', Same H H' → Q (.str (textOf (w0 :: ls))) H'
abbrev s_image_text : Stmt := topS 17
abbrev N_image_text : List Str := ["layers"]
abbrev P_image_text : List Str := ["layers"]
theorem sc_image_text : FnScope N_image_text P_image_text (defScope s_image_text) := ⟨rfl, rfl, rfl, by decide +kernel, rfl, by decide +kernel, by decide +kernel⟩
def spImage (K : PySem.W.Frag) : Sp := fun vs H Q _ => ∃ (l : Addr) (ls : List Str), vs = [.ref l] ∧ SqL K H l (ls.map V.str) ∧ ls.length ≤ 100 ∧ (∀ x ∈ ls, x.length ≤ 1000) ∧ ∀ H', Same H H' → Q (.str (textOf (word false :: ls))) H'
abbrev s_bundle_text : Stmt := topS 18
abbrev N_bundle_text : List Str := ["entries", "platform", "address"]
abbrev P_bundle_text : List Str := ["entries"]
theorem sc_bundle_text : FnScope N_bundle_text P_bundle_text (defScope s_bundle_text) := ⟨rfl, rfl, rfl, by decide +kernel, rfl, by decide +kernel, by decide +kernel⟩
/-- a list of pairs -/
def Prs (K : PySem.W.Frag) (H : Hp) (ts : List V) (es : List (Str × Str)) : Prop := Paired (fun (v : V) (p : Str × Str) => ∃ t, v = .ref t ∧ H t = some (.tup [.str p.1, .str p.2])) ts es
theorem Prs.mono {K : PySem.W.Frag} {H H' : Hp} {ts : List V} {es : List (Str × Str)} (h : Prs K H ts es) (g : Gr H H') : Prs K H' ts es := by
  induction h with
  | nil => exact .nil
  | cons r _ ih =>
    obtain ⟨t, e, ht⟩ := r
    exact .cons ⟨t, e, g.tup ht⟩ ih
def spBundle (K : PySem.W.Frag) : Sp := fun vs H Q _ => ∃ (l : Addr) (ts : List V) (es : List (Str × Str)), vs = [.ref l] ∧ SqL K H l ts ∧ Prs K H ts es ∧ es.length ≤ 100 ∧ (∀ x ∈ es, x.1.length ≤ 100 ∧ x.2.length ≤ 100) ∧ ∀ H', Same H H' → Q (.str (textOf (word true :: es.map ent))) H'
theorem tl_one (x : Str) : Str.empty ++ x = x := by
  apply TL.ext_tl
  rw [TL.tl_append]
  rfl
theorem app_len (x y : Str) : (x ++ y).length = x.length + y.length := by rw [TL.len_tl, TL.len_tl, TL.len_tl, TL.tl_append, List.length_append]
section
variable {P : Program} {w : World} {K : PySem.W.Frag} {mg : Str → Option Value} {base : Heap} {cM cR cU : Addr}
theorem ok_text_of {f : Addr} {fd : FuncData} (F : Fun K "_text_of" "_text_of" s_text_of f fd) : FnOk P w K mg base CX0 1 f fd P_text_of (spTextOf K) := by
  refine F.ok sc_text_of (fun vs H Q E h => ?_) (fun cdv A outer s H vs Q E hr h => ?_)
  · obtain ⟨w0, l, ls, rfl, _⟩ := h
    rfl
  · obtain ⟨w0, l, ls, rfl, hS, hl, hw, q⟩ := h
    have nd := sc_text_of.nd
    refine ⟨_, pss_one (ps_ret (pe_join pe_str (pe_lc (own := [("line", 2)]) (g := gName 2) (tt := tYes) rfl nd (pi_list (pe_lst (pa_cons (pv 0) (StX.pa_star (pv 1) pa_nil)))) (blkOk_by (N := N_text_of) (sc := defScope s_text_of) (by decide +kernel)) (fun _ _ _ _ _ => (pg_name (i := 2) nd rfl (Or.inl rfl))) (fun _ _ _ _ _ => pts_nil) (fun _ _ _ _ _ => (pe_joined (PJ.cons (pe_fmt (pv 2)) (PJ.cons pe_str PJ.nil))))))), ?_⟩
    have es : V.str w0 :: (ls.map V.str ++ []) = (w0 :: ls).map V.str := by rw [List.append_nil]; rfl
    refine ⟨⟨_, rfl⟩, .str w0, rfl, .ref l, rfl, l, _, rfl, .inr hS, ?_⟩
    refine ⟨?_, fun p np => ?_⟩
    · show (V.str w0 :: (ls.map V.str ++ [])).length ≤ sizeLine
      rw [es, List.length_map, List.length_cons, sizeLine_eq]; omega
    have sm1 : Same H (upd H p (.lst (V.str w0 :: (ls.map V.str ++ [])))) := same_upd np
    refine ⟨p, rfl, ⟨_, SqL.of upd_same⟩, fun D nD => lc_map (walk_list (K := K) (a := p) (xs := V.str w0 :: (ls.map V.str ++ []))) (vs := [2]) (te := fun σ H Q => tJs [tFmt (tVar 2), tC (.str "\n")] Str.empty σ H fun out H1 => Q (.str out) H1) (fun i => .str (lin ((w0 :: ls).getD i ""))) ?_ ?_ (fun _ => rfl) ?_ ?_⟩
    · rw [es, List.length_map, List.length_cons]; omega
    · intro H2 hb
      exact hb.list nD (SqL.of upd_same)
    · rintro i x H2 H3 hi hb ⟨rfl, hx⟩
      rw [es, List.getElem?_map] at hx
      cases e : (w0 :: ls)[i]? with
      | none => rw [e] at hx; cases hx
      | some z =>
        rw [e] at hx
        cases hx
        have e9 : (w0 :: ls).getD i "" = z := by rw [List.getD_eq_getElem?_getD, e]; rfl
        have hz : z.length ≤ 1000 := hw z (List.mem_of_getElem? e)
        refine ⟨rfl, fun Q2 kk => ⟨_, rfl, .inl ⟨z, rfl, by rw [sizeLine_eq]; omega, _, rfl, ?_, _, rfl, ?_, ?_⟩⟩⟩
        · rw [tl_one, sizeLine_eq]; omega
        · rw [app_len, tl_one, sizeLine_eq]
          have : (Str.ofString "\n").length = 1 := by decide +kernel
          omega
        · rw [e9] at kk
          exact kk
    · have et : ((List.range (V.str w0 :: (ls.map V.str ++ [])).length).map fun i => V.str (lin ((w0 :: ls).getD i ""))) = ((w0 :: ls).map lin).map V.str := by
        rw [es, List.length_map, range_map_get (fun z : Str => V.str (lin z)) ("" : Str) (w0 :: ls), List.map_map]
        rfl
      rw [et]
      refine ⟨_, D, (w0 :: ls).map lin, rfl, rfl, .inl (SqL.of upd_same), ?_, ?_⟩
      · have := sum_le (fun l : Str => l.length) 1001 ((w0 :: ls).map lin) fun x hx => by
          obtain ⟨y, hy, rfl⟩ := List.mem_map.mp hx
          rw [lin_len]
          have := hw y hy
          omega
        have z : (Str.ofString "").length = 0 := by decide +kernel
        rw [z, Nat.mul_zero, Nat.add_zero]
        refine Nat.le_trans this ?_
        rw [List.length_map, List.length_cons]
        omega
      · exact q _ (sm1.trans (same_upd nD))
theorem ok_image_text {f fT : Addr} {fd dT : FuncData} (F : Fun K "image_text" "image_text" s_image_text f fd) (T : Tx K mg cM cR cU) (DT : DefAt K mg "_text_of" s_text_of P_text_of fT dT) : FnOk P w K mg base CX0 2 f fd P_image_text (spImage K) := by
  have GT : FnOk P w K mg base CX0 1 fT dT P_text_of (spTextOf K) := ok_text_of DT.fn
  refine F.ok sc_image_text (fun vs H Q E h => ?_) (fun cdv A outer s H vs Q E hr h => ?_)
  · obtain ⟨l, ls, rfl, _⟩ := h
    rfl
  · obtain ⟨l, ls, rfl, hS, hl, hw, q⟩ := h
    obtain ⟨ti, cI⟩ := T.IMAGE
    refine ⟨_, pss_one (ps_ret (pe_call GT hr rfl DT.at_ DT.fn.kp DT.bd .nil pass0 (pa_cons (pe_glob (v := .str "image") (by rfl) cI ⟨_, rfl⟩) (pa_cons (pv 0) pa_nil)))), ?_⟩
    refine ⟨_, rfl, "image", l, ls, rfl, hS, hl, fun x hx => ?_, q⟩
    rcases List.mem_cons.mp hx with h | h
    · rw [h]; decide +kernel
    · exact hw x h
theorem Prs.get {H : Hp} {ts : List V} {es : List (Str × Str)} (h : Prs K H ts es) : ∀ {i : Nat} {v : V}, ts[i]? = some v → ∃ p t, es[i]? = some p ∧ v = .ref t ∧ H t = some (.tup [.str p.1, .str p.2]) := by
  induction h with
  | nil => intro i v h; cases h
  | @cons v0 p0 _ _ r _ ih =>
    intro i v h
    cases i with
    | zero =>
      cases h
      obtain ⟨t, e, ht⟩ := r
      exact ⟨p0, t, rfl, e, ht⟩
    | succ i => exact ih h
theorem Prs.len {H : Hp} {ts : List V} {es : List (Str × Str)} (h : Prs K H ts es) : ts.length = es.length := by
  induction h with
  | nil => rfl
  | cons _ _ ih => simp [ih]
theorem ok_bundle_text {f fT : Addr} {fd dT : FuncData} (F : Fun K "bundle_text" "bundle_text" s_bundle_text f fd) (T : Tx K mg cM cR cU) (DT : DefAt K mg "_text_of" s_text_of P_text_of fT dT) : FnOk P w K mg base CX0 2 f fd P_bundle_text (spBundle K) := by
  have GT : FnOk P w K mg base CX0 1 fT dT P_text_of (spTextOf K) := ok_text_of DT.fn
  refine F.ok sc_bundle_text (fun vs H Q E h => ?_) (fun cdv A outer s H vs Q E hr h => ?_)
  · obtain ⟨l, ts, es, rfl, _⟩ := h
    rfl
  · obtain ⟨l, ts, es, rfl, hS, hP, hl, hw, q⟩ := h
    have nd := sc_bundle_text.nd
    obtain ⟨ti, cI⟩ := T.BUNDLE
    refine ⟨_, pss_one (ps_ret (pe_call GT hr rfl DT.at_ DT.fn.kp DT.bd .nil pass0 (pa_cons (pe_glob (v := .str "bundle") (by rfl) cI ⟨_, rfl⟩) (pa_cons (pe_lc (own := [("platform", 1), ("address", 2)]) (g := gTup K 2 (gCons (gName 1) (gCons (gName 2) gNil))) (tt := tYes) rfl nd (pi_list (pv 0)) (blkOk_by (N := N_bundle_text) (sc := defScope s_bundle_text) (by decide +kernel)) (fun _ _ _ _ _ => (pg_tup rfl (pgs_cons (pg_name (i := 1) nd rfl (Or.inl rfl)) (pgs_cons (pg_name (i := 2) nd rfl (Or.inl rfl)) pgs_nil)))) (fun _ _ _ _ _ => pts_nil) (fun _ _ _ _ _ => (pe_joined (PJ.cons (pe_fmt (pv 1)) (PJ.cons pe_str (PJ.cons (pe_fmt (pv 2)) PJ.nil)))))) pa_nil)))), ?_⟩
    have ln := hP.len
    refine ⟨.ref l, rfl, l, rfl, ⟨_, hS⟩, fun D nD => lc_pair (walk_list (K := K) (a := l) (xs := ts)) (vs := [1, 2]) (te := fun σ H Q => tJs [tFmt (tVar 1), tC (.str " "), tFmt (tVar 2)] Str.empty σ H fun out H1 => Q (.str out) H1) (fun i => .str (ent (es.getD i ("", "")))) ?_ ?_ (fun _ _ => rfl) ?_ ?_⟩
    · omega
    · intro H2 hb
      exact hb.list nD hS
    · rintro i x H2 H3 hi hb ⟨rfl, hx⟩
      obtain ⟨p, t, ep, rfl, ht⟩ := hP.get hx
      have e9 : es.getD i ("", "") = p := by rw [List.getD_eq_getElem?_getD, ep]; rfl
      have hp := hw p (List.mem_of_getElem? ep)
      have z : (Str.ofString " ").length = 1 := by decide +kernel
      refine ⟨t, .str p.1, .str p.2, rfl, rfl, SqT.of ((hb.same nD) _ _ ht), fun Q2 kk => ⟨_, rfl, .inl ⟨p.1, rfl, by rw [sizeLine_eq]; omega, _, rfl, ?_, _, rfl, ?_, _, rfl, .inl ⟨p.2, rfl, by rw [sizeLine_eq]; omega, _, rfl, ?_, ?_⟩⟩⟩⟩
      · rw [tl_one, sizeLine_eq]; omega
      · rw [app_len, tl_one, sizeLine_eq]; omega
      · rw [app_len, app_len, tl_one, sizeLine_eq]; omega
      · rw [e9] at kk
        exact kk
    · have et : ((List.range ts.length).map fun i => V.str (ent (es.getD i ("", "")))) = (es.map ent).map V.str := by
        rw [ln, range_map_get (fun z : Str × Str => V.str (ent z)) (("" : Str), ("" : Str)) es, List.map_map]
        rfl
      rw [et]
      refine ⟨"bundle", D, es.map ent, rfl, SqL.of upd_same, by rw [List.length_map]; exact hl, fun x hx => ?_, fun H' sm => q H' ((same_upd nD).trans sm)⟩
      rcases List.mem_cons.mp hx with h | h
      · rw [h]; decide +kernel
      · obtain ⟨y, hy, rfl⟩ := List.mem_map.mp h
        have hp := hw y hy
        have z : sp.length = 1 := by decide +kernel
        unfold ent
        rw [app_len, app_len, tl_one]
        omega
end
end LW
namespace LW
open PySem PySem.Spec PyProof.Rows L2 GxR
abbrev s_lines_behind : Stmt := topS 23
abbrev N_lines_behind : List Str := ["word", "text", "lines"]
abbrev P_lines_behind : List Str := ["word", "text"]
theorem sc_lines_behind : FnScope N_lines_behind P_lines_behind (defScope s_lines_behind) := ⟨rfl, rfl, rfl, by decide +kernel, rfl, by decide +kernel, by decide +kernel⟩
/-- the way out: Malformed with the line n -/
def Out (C : Addr) (H : Hp) (E : XK) (n : Nat) : Prop := ∀ d H', H d = none → Gr H H' → H' d = some (.xd [(("line" : Str), .int (n : Int))]) → E (.ref C) (some d) H'
/-- the lines behind the word, or the fault -/
def spBehind (C : Addr) : Sp := fun vs H Q E => ∃ (w0 t : Str), vs = [.str w0, .str t] ∧ w0 ≠ "" ∧ t.length ≤ 5000 ∧
  (∀ k, behN w0 (lns t) = some k → Out C H E k) ∧ (behN w0 (lns t) = none → ∀ p H', H p = none → Same H H' → H' p = some (.lst ((mid (lns t)).map V.str)) → Q (.ref p) H')
/-- the class, its init and the rule to raise -/
structure MalAt (P : Program) (K : PySem.W.Frag) (mg : Str → Option Value) (C f cc cda : Addr) (fd : FuncData) : Prop where
  I : InitAt P K C f cc cda fd
  iC : PySem.W.findIn K (.ref C) "__init__" = some (some (.ref f))
  tI : PySem.W.typeIn K (.ref f) = some (.type "function")
  bI : Binds K fd P_init []
theorem head_at {α : Type} (l : List α) (h : l ≠ []) : ∃ x, l.head? = some x ∧ l[0]? = some x := by
  cases l with
  | nil => exact absurd rfl h
  | cons x r => exact ⟨x, rfl, rfl⟩
theorem last_at {α : Type} (l : List α) (h : l ≠ []) : ∃ x, l.getLast? = some x ∧ l[l.length - 1]? = some x := by
  have e : l.getLast? = l[l.length - 1]? := List.getLast?_eq_getElem?
  have hl : l.length - 1 < l.length := by
    have := List.length_pos_iff.mpr h
    omega
  exact ⟨l[l.length - 1], by rw [e, List.getElem?_eq_getElem hl], List.getElem?_eq_getElem hl⟩
theorem neq_str (x y : Str) : (!decide (V.str x = V.str y)) = decide (x ≠ y) := by
  by_cases h : x = y
  · subst h; simp
  · have : V.str x ≠ V.str y := fun e => h (by injection e)
    simp [h]
theorem drop_last {α : Type} : ∀ l : List α, l.dropLast.drop 1 = (l.drop 1).dropLast
  | [] => rfl
  | [_] => rfl
  | _ :: _ :: _ => rfl
theorem cut1 (xs : List V) : cutV xs (some 1) none = xs.drop 1 := by
  unfold cutV
  have e1 : HT.sIx xs.length 0 (some 1) = min 1 xs.length := by
    exact HT.sIx_nat xs.length 0 1
  have e2 : HT.sIx xs.length xs.length none = xs.length := rfl
  rw [e1, e2]
  rcases Nat.eq_zero_or_pos xs.length with h | h
  · rw [List.length_eq_zero_iff.mp h]; rfl
  · rw [Nat.min_eq_left (by omega), List.take_of_length_le (by simp)]
section
variable {P : Program} {w : World} {K : PySem.W.Frag} {mg : Str → Option Value} {base : Heap} {cM cR cU : Addr}
theorem ok_lines_behind {f fM cc cda : Addr} {fd dM : FuncData} (F : Fun K "_lines_behind" "_lines_behind" s_lines_behind f fd) (T : Tx K mg cM cR cU) (M : MalAt P K mg cM fM cc cda dM) :
    FnOk P w K mg base (L2.CX P w) 3 f fd P_lines_behind (spBehind cM) := by
  have GM : FnOk P w K mg base CX0 1 fM dM P_init (spInit cM) := ok_init M.I T
  refine F.okX sc_lines_behind (fun vs H Q E h => ?_) (fun cdv A outer s H vs Q E hr h => ?_)
  · obtain ⟨w0, t, rfl, _⟩ := h
    rfl
  · obtain ⟨w0, t, rfl, hw, hl, hE, hQ⟩ := h
    have nd := sc_lines_behind.nd
    obtain ⟨tm, cM'⟩ := T.MOST
    refine ⟨_, pss_cons (ps_set (i := 2) nd rfl (Or.inl rfl) (pe_split (pv 1) pe_str))
  (pss_cons (ps_if (pt_cmpR op_ne (pe_ix ix_list (pv 2) pe_int (fun _ _ => rfl)) (pv 0) (nomark _))
    (pss_one (ps_raise rfl (takes_of rfl rfl rfl rfl) (pmk_oex M.I.S.T M.iC M.tI GM hr M.bI .nil pass0 rfl T.MAL (pa_cons pe_int pa_nil))))
    (pss_nil))
  (pss_cons (ps_if (pt_cmpR op_ne (pe_bm0 PySem.F.plainAttrs_list PySem.F.slot_list_pop PySem.F.type_list_pop mt_pop (pv 2)) pe_str (nomark _))
    (pss_one (ps_raise rfl (takes_of rfl rfl rfl rfl) (pmk_oex M.I.S.T M.iC M.tI GM hr M.bI .nil pass0 rfl T.MAL (pa_cons (pe_callB call_len_seq (by rfl) T.len (by decide +kernel) (pa_cons (pv 2) pa_nil)) pa_nil))))
    (pss_nil))
  (pss_cons (ps_if (pt_cmpR op_gt (pe_callB call_len_seq (by rfl) T.len (by decide +kernel) (pa_cons (pv 2) pa_nil)) (pe_op op_add (pe_glob (v := .int 50) (by rfl) cM' ⟨_, rfl⟩) pe_int) (nomark _))
    (pss_one (ps_raise rfl (takes_of rfl rfl rfl rfl) (pmk_oex M.I.S.T M.iC M.tI GM hr M.bI .nil pass0 rfl T.MAL (pa_cons (pe_op op_add (pe_glob (v := .int 50) (by rfl) cM' ⟨_, rfl⟩) pe_int) pa_nil))))
    (pss_nil))
  (pss_one (ps_ret (pe_slice sl_list (pv 2) (po_some pe_int) po_none)))))), ?_⟩
    have hsz : t.length + 2 ≤ sizeLine := by rw [sizeLine_eq]; omega
    have hne := lns_ne t
    have hlen := lns_len t
    obtain ⟨hd, eh, eh0⟩ := head_at _ hne
    obtain ⟨la, el, el0⟩ := last_at _ hne
    refine ⟨.str t, rfl, ⟨t, rfl⟩, t, nl, rfl, rfl, by decide +kernel, hsz, fun p np => ?_⟩
    show _
    have hp : (upd H p (.lst ((lns t).map V.str))) p = some (.lst ((lns t).map V.str)) := upd_same
    have sm : Same H (upd H p (.lst ((lns t).map V.str))) := same_upd np
    refine ⟨.ref p, rfl, p, _, 0, .str hd, rfl, rfl, SqL.of hp, atI_nat (by rw [List.getElem?_map, eh0]; rfl), .str w0, rfl, rfl, _, rfl, ?_⟩
    rw [neq_str]
    refine ite2 (fun e => ?_) (fun e => ?_)
    · have hbe : behN w0 (lns t) = some 0 := by
        unfold behN
        rw [if_pos]
        rw [eh]
        intro z
        exact of_decide_eq_true e (Option.some.inj z)
      refine mal_end (n := 0) (by decide) fun d H' nd1 sm1 hd1 => ?_
      exact hE 0 hbe d H' (sm.free nd1) (.of_same (sm.trans sm1)) hd1
    · have ehw : hd = w0 := by
        have := of_decide_eq_false (eq_false_of_ne_true e)
        exact Classical.not_not.mp this
      have b1 : (lns t).head? = some w0 := by rw [eh, ehw]
      have eml : ((lns t).map V.str).length = (lns t).length := List.length_map _
      have el1 : ((lns t).map V.str)[((lns t).map V.str).length - 1]? = some (V.str la) := by rw [eml, List.getElem?_map, el0]; rfl
      have edl : ((lns t).map V.str).dropLast = ((lns t).dropLast).map V.str := by rw [List.map_dropLast]
      refine ⟨.ref p, rfl, .inl ⟨rfl, _, SqL.of hp⟩, p, _, .str la, rfl, rfl, hp, el1, rfl, _, rfl, ?_⟩
      rw [neq_str, edl, upd_upd]
      have hp2 : (upd H p (.lst (((lns t).dropLast).map V.str))) p = some (.lst (((lns t).dropLast).map V.str)) := upd_same
      have sm2 : Same H (upd H p (.lst (((lns t).dropLast).map V.str))) := same_upd np
      refine ite2 (fun e => ?_) (fun e => ?_)
      · have hbe : behN w0 (lns t) = some ((lns t).length - 1) := by
          unfold behN
          rw [if_neg (by rw [b1]; exact fun z => z rfl), if_pos]
          rw [el]
          intro z
          exact of_decide_eq_true e (Option.some.inj z)
        refine ⟨_, rfl, p, _, rfl, .inl (SqL.of hp2), ?_⟩
        rw [List.length_map, List.length_dropLast]
        refine mal_end (n := (lns t).length - 1) (by omega) fun d H' nd1 sm1 hd1 => ?_
        exact hE _ hbe d H' (sm2.free nd1) (.of_same (sm2.trans sm1)) hd1
      · have ela : la = "" := by
          have := of_decide_eq_false (eq_false_of_ne_true e)
          exact Classical.not_not.mp this
        have b2 : (lns t).getLast? = some ("" : Str) := by rw [el, ela]
        refine ⟨_, rfl, p, _, rfl, .inl (SqL.of hp2), _, _, rfl, rfl, _, _, rfl, rfl, _, rfl, ?_⟩
        rw [List.length_map, List.length_dropLast]
        refine ite2 (fun e => ?_) (fun e => ?_)
        · have h52 : 52 < (lns t).length := by
            have := of_decide_eq_true e
            omega
          have hbe : behN w0 (lns t) = some 51 := by
            unfold behN
            rw [if_neg (by rw [b1]; exact fun z => z rfl), if_neg (by rw [b2]; exact fun z => z rfl), if_pos h52]
          refine ⟨_, _, rfl, rfl, ?_⟩
          refine mal_end (n := 51) (by decide) fun d H' nd1 sm1 hd1 => ?_
          exact hE 51 hbe d H' (sm2.free nd1) (.of_same (sm2.trans sm1)) hd1
        · have h52 : ¬ 52 < (lns t).length := by
            have := of_decide_eq_false (eq_false_of_ne_true e)
            omega
          have hbe : behN w0 (lns t) = none := by
            unfold behN
            rw [if_neg (by rw [b1]; exact fun z => z rfl), if_neg (by rw [b2]; exact fun z => z rfl), if_neg h52]
          refine ⟨.ref p, rfl, 1, rfl, p, _, rfl, SqL.of hp2, fun p2 np2 => ?_⟩
          rw [cut1]
          refine hQ hbe p2 _ (sm2.free np2) (sm2.trans (same_upd np2)) ?_
          rw [upd_same, ← List.map_drop, drop_last]
          rfl
end
end LW
namespace LW
open PySem PySem.Spec PyProof.Rows L2 GxR
abbrev s_read_image : Stmt := topS 19
abbrev N_read_image : List Str := ["text", "layers", "at", "layer"]
abbrev P_read_image : List Str := ["text"]
theorem sc_read_image : FnScope N_read_image P_read_image (defScope s_read_image) := ⟨rfl, rfl, rfl, by decide +kernel, rfl, by decide +kernel, by decide +kernel⟩
def spReadI (C B1 : Addr) : Sp := fun vs H Q E => ∃ t : Str, vs = [.str t] ∧ t.length ≤ 5000 ∧ TabG H B1 ∧
  (∀ k, faultN false (lns t) = some k → Out C H E k) ∧ (faultN false (lns t) = none → ∀ p H', H p = none → Gr H H' → H' p = some (.lst ((mid (lns t)).map V.str)) → Q (.ref p) H')
/-- a def of the module by its name, its code object known -/
structure DefC (K : PySem.W.Frag) (mg : Str → Option Value) (x : Str) (st : Stmt) (ps : List Str) (f : Addr) (fd : FuncData) (c : Addr) : Prop where
  fn : FunC K x x st f fd c
  at_ : mg x = some (.ref f)
  bd : Binds K fd ps []
theorem fault_beh {b : Bool} {ls : List Str} {k : Nat} (h : behN (word b) ls = some k) : faultN b ls = some k := by
  unfold faultN
  rw [h]
theorem fault_mid {b : Bool} {ls : List Str} (h : behN (word b) ls = none) : faultN b ls = if b = true ∧ ls.length = 2 then some 1 else ((List.range (ls.length - 2)).find? (bad b (mid ls))).map (· + 1) := by
  unfold faultN
  rw [h]
theorem mid_mem {ls : List Str} {x : Str} (h : x ∈ mid ls) : x ∈ ls := by
  unfold mid at h
  exact List.mem_of_mem_drop (List.dropLast_subset _ h)
theorem Out.imp {C : Addr} {H H1 : Hp} {E : XK} {k : Nat} (o : Out C H E k) (g : Gr H H1) : Out C H1 E k := fun d H' n g' e => o d H' (g.free d n) (g.trans g') e
section
variable {P : Program} {w : World} {K : PySem.W.Frag} {mg : Str → Option Value} {base : Heap} {cM cR cU : Addr}
theorem ok_read_image {f fM cc cda fB fI cI B1 : Addr} {fd dM dB dI : FuncData} (F : Fun K "read_image" "read_image" s_read_image f fd) (T : Tx K mg cM cR cU) (M : MalAt P K mg cM fM cc cda dM)
    (DB : DefAt K mg "_lines_behind" s_lines_behind P_lines_behind fB dB) (DI : DefC K mg "is_address" s_is_address P_is_address fI dI cI) (TI : TabB base mg cI B1) :
    FnOk P w K mg base (L2.CX P w) 4 f fd P_read_image (spReadI cM B1) := by
  have GM : FnOk P w K mg base CX0 1 fM dM P_init (spInit cM) := ok_init M.I T
  have GB : FnOk P w K mg base (L2.CX P w) 3 fB dB P_lines_behind (spBehind cM) := ok_lines_behind DB.fn T M
  have GI : FnOk P w K mg base CX0 1 fI dI P_is_address (spYes isAddr B1) := ok_is_address DI.fn T TI
  refine F.okX sc_read_image (fun vs H Q E h => ?_) (fun cdv A outer s H vs Q E hr h => ?_)
  · obtain ⟨t, rfl, _⟩ := h
    rfl
  · obtain ⟨t, rfl, hl, hB, hE, hQ⟩ := h
    have nd := sc_read_image.nd
    obtain ⟨tI, cIm⟩ := T.IMAGE
    have hr2 := hr.mono (show 2 ≤ 3 by decide)
    have hr1 := hr.mono (show 1 ≤ 3 by decide)
    refine ⟨_, pss_cons (ps_set (i := 1) nd rfl (Or.inl rfl) (pe_callS GB hr rfl DB.at_ DB.fn.kp DB.bd (fun σ => passAt (takes_of rfl rfl rfl rfl) σ) (pa_cons (pe_glob (v := .str "image") (by rfl) cIm ⟨_, rfl⟩) (pa_cons (pv 0) pa_nil))))
  (pss_cons (ps_for (passes_of rfl) rfl (pi_enumC (by rfl) T.enum (pa_cons (pv 1) pa_nil) (pk_cons pe_int pk_nil)) (pg_tup rfl (pgs_cons (pg_name (i := 2) nd rfl (Or.inl rfl)) (pgs_cons (pg_name (i := 3) nd rfl (Or.inl rfl)) pgs_nil)))
    (pss_one (ps_if (pt_not (pt_val (pe_call GI hr1 rfl DI.at_ DI.fn.kp DI.bd .nil pass0 (pa_cons (pv 3) pa_nil))))
    (pss_one (ps_raise rfl (takes_of rfl rfl rfl rfl) (pmk_oex M.I.S.T M.iC M.tI GM hr2 M.bI .nil pass0 rfl T.MAL (pa_cons (pv 2) pa_nil))))
    (pss_nil))))
  (pss_one (ps_ret (pv 1)))), ?_⟩
    refine ⟨.str t, rfl, "image", t, rfl, by decide +kernel, hl, fun k hk d H' nd1 g1 hd1 => hE k (fault_beh (b := false) hk) d H' nd1 g1 hd1, fun hn p H1 np sm hp => ?_⟩
    have hf := fault_mid (b := false) hn
    have ln := mid_len (lns t)
    have gr1 : Gr H H1 := .of_same sm
    have lm := lns_len t
    have lS : ((mid (lns t)).map V.str).length = (mid (lns t)).length := List.length_map _
    refine ⟨.ref p, rfl, p, 1, _, rfl, rfl, by decide, by decide, SqL.of hp, ?_⟩
    refine for_it (walk_enumC (K := K) (c := 1) (a := p) (xs := (mid (lns t)).map V.str)) (fun i σ H' => Gr H1 H' ∧ (∀ j, j < i → bad false (mid (lns t)) j = false) ∧ ∃ v1 v2, σ = [some (.str t), some (.ref p), v1, v2]) ⟨Gr.refl _, fun j hj => absurd hj (by omega), none, none, rfl⟩
      (fun _ _ _ _ h => SqL.of (h.1.lst hp)) ?_ ?_
    · rintro i x σ H2 H3 hi ⟨g, hno, v1, v2, rfl⟩ ⟨T0, x1, y1, rfl, nT, rfl, hx1, hy1⟩
      cases hx1
      have hy1 : ((mid (lns t)).map V.str)[i]? = some y1 := hy1
      rw [List.getElem?_map] at hy1
      cases e : (mid (lns t))[i]? with
      | none => rw [e] at hy1; cases hy1
      | some z =>
        rw [e] at hy1
        cases hy1
        have e9 : (mid (lns t)).getD i "" = z := by rw [List.getD_eq_getElem?_getD, e]; rfl
        have hz := lns_mem (mid_mem (List.mem_of_getElem? e))
        rw [lS] at hi
        have g2 : Gr H (upd H2 T0 (.tup [.int (1 + (i : Int)), .str z])) := (gr1.trans g).upd nT
        refine ⟨T0, [.int (1 + (i : Int)), .str z], rfl, SqT.of upd_same, rfl, _, _, rfl, _, _, rfl, rfl, ?_⟩
        refine ⟨_, rfl, z, rfl, by rw [sizeLine_eq]; omega, g2.tab _ hB, fun H4 g4 => ⟨_, rfl, ?_⟩⟩
        have g5 : Gr H H4 := g2.trans g4
        cases hbz : isAddr z with
        | false =>
          refine iteT ?_
          have hbad : bad false (mid (lns t)) i = true := by
            show (!isAddr ((mid (lns t)).getD i "")) = true
            rw [e9, hbz]; rfl
          have hfk : faultN false (lns t) = some (i + 1) := by
            rw [hf, if_neg (by simp), ← ln, find_hit hi hno hbad]
            rfl
          have ei : (1 : Int) + (i : Int) = ((i + 1 : Nat) : Int) := by omega
          refine ⟨_, rfl, ?_⟩
          rw [ei]
          refine mal_end (n := i + 1) (by omega) fun d H' nd1 sm1 hd1 => ?_
          exact hE _ hfk d H' (g5.free _ nd1) (g5.trans (.of_same sm1)) hd1
        | true =>
          refine iteF ?_
          refine ⟨(g.upd nT).trans g4, fun j hj => ?_, _, _, rfl⟩
          by_cases hji : j < i
          · exact hno j hji
          · have : j = i := by omega
            subst this
            show (!isAddr ((mid (lns t)).getD j "")) = false
            rw [e9, hbz]; rfl
    · rintro σ H2 ⟨g, hno, v1, v2, rfl⟩
      have hfk : faultN false (lns t) = none := by
        rw [hf, if_neg (by simp), find_miss fun j hj => hno j (by rw [lS, ln]; exact hj)]
        rfl
      exact ⟨_, rfl, hQ hfk p H2 np (gr1.trans g) (g.lst hp)⟩
end
end LW
namespace LW
open PySem PySem.Spec PyProof.Rows L2 GxR
abbrev s_read_bundle : Stmt := topS 20
abbrev N_read_bundle : List Str := ["text", "lines", "found", "at", "line", "platform", "_", "address"]
abbrev P_read_bundle : List Str := ["text"]
theorem sc_read_bundle : FnScope N_read_bundle P_read_bundle (defScope s_read_bundle) := ⟨rfl, rfl, rfl, by decide +kernel, rfl, by decide +kernel, by decide +kernel⟩
def prt (l : Str) : Str × Str := (nam l, adr l)
def spReadB (K : PySem.W.Frag) (C B1 B2 : Addr) : Sp := fun vs H Q E => ∃ t : Str, vs = [.str t] ∧ t.length ≤ 5000 ∧ TabG H B1 ∧ TabG H B2 ∧
  (∀ k, faultN true (lns t) = some k → Out C H E k) ∧ (faultN true (lns t) = none → ∀ p ts H', H p = none → Gr H H' → H' p = some (.lst ts) → Prs K H' ts ((mid (lns t)).map prt) → Q (.ref p) H')
theorem Gr.new {H H' : Hp} {d : Addr} {o : HO} (g : Gr H H') (n : H d = none) : Gr H (L2.upd H' d o) :=
  ⟨fun b u e t => by rw [upd_ne (ne_of_none e n)]; exact g.keep b u e t, fun b t => by
    have t' := g.tab b t
    obtain ⟨ps, e, _⟩ := t
    exact tab_eq t' (upd_ne (ne_of_none e n)), fun b z => by
    by_cases h : b = d
    · rw [h]; exact n
    · rw [upd_ne h] at z; exact g.free b z⟩
theorem beh_two {w0 : Str} {ls : List Str} (h0 : ls ≠ []) (hw : w0 ≠ "") (hn : behN w0 ls = none) : 2 ≤ ls.length := by
  cases ls with
  | nil => exact absurd rfl h0
  | cons x r =>
    cases r with
    | cons _ _ => simp
    | nil =>
      exfalso
      unfold behN at hn
      by_cases h1 : ([x] : List Str).head? = some w0
      · have hx : x = w0 := Option.some.inj h1
        rw [if_neg (by rw [h1]; exact fun z => z rfl), if_pos] at hn
        · cases hn
        · intro z
          rw [hx] at z
          exact hw (Option.some.inj z)
      · rw [if_pos h1] at hn
        cases hn
theorem part_len (z : Str) : (nam z).length ≤ z.length ∧ (adr z).length ≤ z.length := by
  by_cases h : 32 ∈ TL.tl z
  · obtain ⟨a, b, e, ha⟩ := split_at _ h
    have el : z = (⟨a.toArray⟩ : Str) ++ sp ++ (⟨b.toArray⟩ : Str) := by
      apply TL.ext_tl
      rw [TL.tl_append, TL.tl_append, tl_sp]
      show _ = (a ++ [32]) ++ b
      rw [e]
      simp
    have ep : Txt.partition z sp = (⟨a.toArray⟩, sp, ⟨b.toArray⟩) := by
      rw [el]
      exact TL.partition_app tl_sp (by show 32 ∉ a; exact ha)
    have hz : z.length = a.length + 1 + b.length := by rw [TL.len_tl, e]; simp; omega
    have l1 : (⟨a.toArray⟩ : Str).length = a.length := by rw [TL.len_tl]
    have l2 : (⟨b.toArray⟩ : Str).length = b.length := by rw [TL.len_tl]
    unfold nam adr
    rw [ep]
    dsimp only
    omega
  · have ep : Txt.partition z sp = (z, Str.empty, Str.empty) := TL.partition_none tl_sp h
    unfold nam adr
    rw [ep]
    exact ⟨Nat.le_refl _, Nat.zero_le _⟩
/-- the dict behind so many lines -/
def kvsOf (ms : List Str) : List (Key × V) := ms.map fun l => (Sum.inr (nam l), V.str (adr l))
theorem val_kvs (ms : List Str) (x : Str) : (valV (kvsOf ms) (Sum.inr x)).isSome = decide (x ∈ ms.map nam) := by
  induction ms with
  | nil => rfl
  | cons m r ih =>
    unfold valV kvsOf at ih ⊢
    rw [List.map_cons, List.find?_cons]
    by_cases h : nam m = x
    · have e1 : decide ((Sum.inr (nam m) : Key) = Sum.inr x) = true := decide_eq_true (by rw [h])
      dsimp only
      rw [e1]
      have : x ∈ (m :: r).map nam := by rw [List.map_cons, h]; exact List.mem_cons_self
      rw [decide_eq_true this]
      rfl
    · have e1 : decide ((Sum.inr (nam m) : Key) = Sum.inr x) = false := decide_eq_false (fun z => h (by injection z))
      dsimp only
      rw [e1]
      dsimp only
      rw [ih]
      apply decide_eq_decide.mpr
      rw [List.map_cons, List.mem_cons]
      constructor
      · exact fun z => .inr z
      · intro z
        rcases z with z | z
        · exact absurd z.symm h
        · exact z
theorem prs_kvs {K : PySem.W.Frag} {H : Hp} : ∀ {ms : List Str} {ts : List Addr}, Paired (fun (t : Addr) (q : Key × V) => H t = some (.tup [kV q.1, q.2])) ts (kvsOf ms) → Prs K H (ts.map V.ref) (ms.map prt)
  | [], _, h => by
    cases h
    exact .nil
  | m :: r, _, h => by
    cases h with
    | cons h1 h2 => exact .cons ⟨_, rfl, h1⟩ (prs_kvs (K := K) h2)
section
variable {P : Program} {w : World} {K : PySem.W.Frag} {mg : Str → Option Value} {base : Heap} {cM cR cU : Addr}
theorem ok_read_bundle {f fM cc cda fB fI cI fL cL B1 B2 : Addr} {fd dM dB dI dL : FuncData} (F : Fun K "read_bundle" "read_bundle" s_read_bundle f fd) (T : Tx K mg cM cR cU) (M : MalAt P K mg cM fM cc cda dM)
    (DB : DefAt K mg "_lines_behind" s_lines_behind P_lines_behind fB dB) (DI : DefC K mg "is_address" s_is_address P_is_address fI dI cI) (TI : TabB base mg cI B1)
    (DL : DefC K mg "_is_platform" s_is_platform P_is_platform fL dL cL) (TL : TabB base mg cL B2) :
    FnOk P w K mg base (L2.CX P w) 4 f fd P_read_bundle (spReadB K cM B1 B2) := by
  have GM : FnOk P w K mg base CX0 1 fM dM P_init (spInit cM) := ok_init M.I T
  have GB : FnOk P w K mg base (L2.CX P w) 3 fB dB P_lines_behind (spBehind cM) := ok_lines_behind DB.fn T M
  have GI : FnOk P w K mg base CX0 1 fI dI P_is_address (spYes isAddr B1) := ok_is_address DI.fn T TI
  have GL : FnOk P w K mg base CX0 1 fL dL P_is_platform (spYes isPlat B2) := ok_is_platform DL.fn T TL
  refine F.okX sc_read_bundle (fun vs H Q E h => ?_) (fun cdv A outer s H vs Q E hr h => ?_)
  · obtain ⟨t, rfl, _⟩ := h
    rfl
  · obtain ⟨t, rfl, hl, hB1, hB2, hE, hQ⟩ := h
    have nd := sc_read_bundle.nd
    obtain ⟨tI, cBu⟩ := T.BUNDLE
    have hr2 := hr.mono (show 2 ≤ 3 by decide)
    have hr1 := hr.mono (show 1 ≤ 3 by decide)
    have hu : (A.deeper (envOfC "read_bundle" (defScope s_read_bundle) s.heap.objs.size f cdv)).units + 1 < cLine := by have := hr.units; omega
    refine ⟨_, pss_cons (ps_set (i := 1) nd rfl (Or.inl rfl) (pe_callS GB hr rfl DB.at_ DB.fn.kp DB.bd (fun σ => passAt (takes_of rfl rfl rfl rfl) σ) (pa_cons (pe_glob (v := .str "bundle") (by rfl) cBu ⟨_, rfl⟩) (pa_cons (pv 0) pa_nil))))
  (pss_cons (ps_if (pt_not (pt_truth (pv 1) (by intro _; rfl)))
    (pss_one (ps_raise rfl (takes_of rfl rfl rfl rfl) (pmk_oex M.I.S.T M.iC M.tI GM hr2 M.bI .nil pass0 rfl T.MAL (pa_cons pe_int pa_nil))))
    (pss_nil))
  (pss_cons (ps_set (i := 2) nd rfl (Or.inl rfl) pe_dnewK)
  (pss_cons (ps_for (passes_of rfl) rfl (pi_enumC (by rfl) T.enum (pa_cons (pv 1) pa_nil) (pk_cons pe_int pk_nil)) (pg_tup rfl (pgs_cons (pg_name (i := 3) nd rfl (Or.inl rfl)) (pgs_cons (pg_name (i := 4) nd rfl (Or.inl rfl)) pgs_nil)))
    (pss_cons (ps_asg (pe_partition (pv 4) pe_str) (pg_tup rfl (pgs_cons (pg_name (i := 5) nd rfl (Or.inl rfl)) (pgs_cons (pg_name (i := 6) nd rfl (Or.inl rfl)) (pgs_cons (pg_name (i := 7) nd rfl (Or.inl rfl)) pgs_nil)))))
  (pss_cons (ps_if (PW.pt (pw_or (pt_cmp (pc_din hu (pv 5) (pv 2))) (pw_or (pt_not (pt_val (pe_call GL hr1 rfl DL.at_ DL.fn.kp DL.bd .nil pass0 (pa_cons (pv 5) pa_nil)))) (pw_or1 (pt_not (pt_val (pe_call GI hr1 rfl DI.at_ DI.fn.kp DI.bd .nil pass0 (pa_cons (pv 7) pa_nil))))))))
    (pss_one (ps_raise rfl (takes_of rfl rfl rfl rfl) (pmk_oex M.I.S.T M.iC M.tI GM hr2 M.bI .nil pass0 rfl T.MAL (pa_cons (pv 3) pa_nil))))
    (pss_nil))
  (pss_one (ps_dput hu (pv 2) (pv 5) (pv 7) rfl)))))
  (pss_one (ps_ret (LiI.pe_listItems rfl (pv 2) (by rfl) T.list (by decide +kernel))))))), ?_⟩
    refine ⟨.str t, rfl, "bundle", t, rfl, by decide +kernel, hl, fun k hk d H' nd1 g1 hd1 => hE k (fault_beh (b := true) hk) d H' nd1 g1 hd1, fun hn p H1 np sm hp => ?_⟩
    have hf := fault_mid (b := true) hn
    have ln := mid_len (lns t)
    have gr1 : Gr H H1 := .of_same sm
    have lm := lns_len t
    have lS : ((mid (lns t)).map V.str).length = (mid (lns t)).length := List.length_map _
    have l2 : 2 ≤ (lns t).length := beh_two (lns_ne t) (by decide +kernel) hn
    refine ⟨.ref p, rfl, _, .inl ⟨_, SqL.of hp, rfl⟩, ?_⟩
    cases em : mid (lns t) with
    | nil =>
      have e2 : (lns t).length = 2 := by
        rw [em] at ln
        simp at ln
        omega
      have hfk : faultN true (lns t) = some 1 := by rw [hf, if_pos ⟨rfl, e2⟩]
      refine iteT ?_
      refine mal_end (n := 1) (by decide) fun d H' nd1 sm1 hd1 => ?_
      exact hE 1 hfk d H' (gr1.free _ nd1) (gr1.trans (.of_same sm1)) hd1
    | cons m0 mr =>
      have e2 : ¬ (true = true ∧ (lns t).length = 2) := by
        rintro ⟨_, h2⟩
        rw [em] at ln
        simp at ln
        omega
      rw [if_neg e2] at hf
      refine iteF ?_
      refine fun d ndd => ?_
      have ndH : H d = none := gr1.free d ndd
      refine ⟨.ref p, rfl, p, 1, _, rfl, rfl, by decide, by decide, SqL.of (by rw [upd_ne (ne_of_none hp ndd)]; exact hp), ?_⟩
      refine for_it (walk_enumC (K := K) (c := 1) (a := p) (xs := (mid (lns t)).map V.str)) (fun i σ H' => Gr H1 H' ∧ H' d = some (.dK (kvsOf ((mid (lns t)).take i))) ∧ (∀ j, j < i → bad true (mid (lns t)) j = false) ∧ ∃ v1 v2 v3 v4 v5, σ = [some (.str t), some (.ref p), some (.ref d), v1, v2, v3, v4, v5]) ⟨(Gr.refl _).new ndd, upd_same, fun j hj => absurd hj (by omega), none, none, none, none, none, rfl⟩
        (fun _ _ _ _ h => SqL.of (h.1.lst hp)) ?_ ?_
      · rintro i x σ H2 H3 hi ⟨g, hd2, hno, v1, v2, v3, v4, v5, rfl⟩ ⟨T0, x1, y1, rfl, nT, rfl, hx1, hy1⟩
        cases hx1
        have hy1 : ((mid (lns t)).map V.str)[i]? = some y1 := hy1
        rw [List.getElem?_map] at hy1
        cases e : (mid (lns t))[i]? with
        | none => rw [e] at hy1; cases hy1
        | some z =>
          rw [e] at hy1
          cases hy1
          have e9 : (mid (lns t)).getD i "" = z := by rw [List.getD_eq_getElem?_getD, e]; rfl
          have hz := lns_mem (mid_mem (List.mem_of_getElem? e))
          rw [lS] at hi
          have dT0 : d ≠ T0 := ne_of_none hd2 nT
          have g2 : Gr H1 (upd H2 T0 (.tup [.int (1 + (i : Int)), .str z])) := g.upd nT
          have hd3 : (upd H2 T0 (.tup [.int (1 + (i : Int)), .str z])) d = some (.dK (kvsOf ((mid (lns t)).take i))) := by rw [upd_ne dT0]; exact hd2
          refine ⟨T0, [.int (1 + (i : Int)), .str z], rfl, SqT.of upd_same, rfl, _, _, rfl, _, _, rfl, rfl, ?_⟩
          refine ⟨_, rfl, ⟨_, rfl⟩, z, sp, rfl, rfl, by decide +kernel, by rw [sizeLine_eq]; omega, fun q0 nq => ?_⟩
          have dq0 : d ≠ q0 := ne_of_none hd3 nq
          have g3 := g2.upd (o := .tup [.str (nam z), .str (Txt.partition z sp).2.1, .str (adr z)]) nq
          refine ⟨q0, [.str (nam z), .str (Txt.partition z sp).2.1, .str (adr z)], rfl, SqT.of upd_same, rfl, _, _, rfl, _, _, rfl, _, _, rfl, rfl, ?_⟩
          have hd4 : (upd (upd H2 T0 (.tup [.int (1 + (i : Int)), .str z])) q0 (.tup [.str (nam z), .str (Txt.partition z sp).2.1, .str (adr z)])) d = some (.dK (kvsOf ((mid (lns t)).take i))) := by rw [upd_ne dq0]; exact hd3
          have hk4 : valV (kvsOf ((mid (lns t)).take i)) (Sum.inr (nam z)) = valV (kvsOf ((mid (lns t)).take i)) (Sum.inr (nam z)) := rfl
          have hbi : bad true (mid (lns t)) i = (decide (nam z ∈ ((mid (lns t)).take i).map nam) || !isPlat (nam z) || !isAddr (adr z)) := by
            unfold bad
            rw [if_pos rfl, e9]
          have ei : (1 : Int) + (i : Int) = ((i + 1 : Nat) : Int) := by omega
          have hfk : bad true (mid (lns t)) i = true → faultN true (lns t) = some (i + 1) := fun hb => by
            rw [hf, ← ln, find_hit hi hno hb]
            rfl
          have R := fun (H4 : Hp) (g4 : Gr H1 H4) (hb : bad true (mid (lns t)) i = true) => mal_end (C := cM) (H1 := H4) (n := i + 1) (Q := E) (by omega) fun d' H' nd1 sm1 hd1 => hE _ (hfk hb) d' H' ((gr1.trans g4).free _ nd1) ((gr1.trans g4).trans (.of_same sm1)) hd1
          have ln1 : (nam z).length ≤ z.length ∧ (adr z).length ≤ z.length := part_len z
          refine ⟨_, rfl, _, rfl, d, _, rfl, DGet.k (k := Sum.inr (nam z)) hd4, _, rfl, ?_⟩
          rw [val_kvs]
          cases c1 : decide (nam z ∈ ((mid (lns t)).take i).map nam) with
          | true =>
            refine iteT (iteT ⟨_, rfl, ?_⟩)
            have q9 := R _ g3 (by rw [hbi, c1]; rfl)
            rw [← ei] at q9
            exact q9
          | false =>
            refine iteF ⟨_, rfl, nam z, rfl, by rw [sizeLine_eq]; omega, (gr1.trans g3).tab _ hB2, fun H5 g5 => ⟨_, rfl, ?_⟩⟩
            have g6 := g3.trans g5
            cases c2 : isPlat (nam z) with
            | false =>
              refine iteT (iteT ⟨_, rfl, ?_⟩)
              have q9 := R _ g6 (by rw [hbi, c1, c2]; rfl)
              rw [← ei] at q9
              exact q9
            | true =>
              refine iteF ⟨_, rfl, adr z, rfl, by rw [sizeLine_eq]; omega, (gr1.trans g6).tab _ hB1, fun H6 g7 => ⟨_, rfl, ?_⟩⟩
              have g8 := g6.trans g7
              cases c3 : isAddr (adr z) with
              | false =>
                refine iteT ⟨_, rfl, ?_⟩
                have q9 := R _ g8 (by rw [hbi, c1, c2, c3]; rfl)
                rw [← ei] at q9
                exact q9
              | true =>
                refine iteF ?_
                have hd6 : H6 d = some (.dK (kvsOf ((mid (lns t)).take i))) := (g5.trans g7).keep d _ hd4 (fun ps z => nomatch z)
                have et : (mid (lns t)).take (i + 1) = (mid (lns t)).take i ++ [z] := by rw [List.take_add_one, e]; rfl
                have ek : putK (kvsOf ((mid (lns t)).take i)) (Sum.inr (nam z)) (.str (adr z)) = kvsOf ((mid (lns t)).take (i + 1)) := by
                  rw [putK_new _ ?_, et]
                  · unfold kvsOf
                    rw [List.map_append]
                    rfl
                  · cases e0 : valV (kvsOf ((mid (lns t)).take i)) (Sum.inr (nam z)) with
                    | none => rfl
                    | some v =>
                      have := val_kvs ((mid (lns t)).take i) (nam z)
                      rw [e0, c1] at this
                      cases this
                refine ⟨_, rfl, _, rfl, _, rfl, d, _, rfl, DPut.k (k := Sum.inr (nam z)) hd6 ?_, ?_⟩
                · unfold kvsOf
                  rw [List.length_map, List.length_take, sizeLine_eq]
                  omega
                · rw [ek]
                  refine ⟨g8.new ndd, upd_same, fun j hj => ?_, _, _, _, _, _, rfl⟩
                  by_cases hji : j < i
                  · exact hno j hji
                  · have : j = i := by omega
                    subst this
                    rw [hbi, c1, c2, c3]; rfl
      · rintro σ H2 ⟨g, hd2, hno, v1, v2, v3, v4, v5, rfl⟩
        have hfk : faultN true (lns t) = none := by
          rw [hf, find_miss fun j hj => hno j (by rw [lS, ln]; exact hj)]
          rfl
        have e1 : (mid (lns t)).take ((mid (lns t)).map V.str).length = mid (lns t) := List.take_of_length_le (by rw [List.length_map]; exact Nat.le_refl _)
        rw [e1] at hd2
        refine ⟨_, rfl, d, _, rfl, hd2, fun H' q0 ts ks nq nts nin hq0 hpr => ?_⟩
        have g2 : Gr H H' := (gr1.trans g).trans (.of_same ks)
        exact hQ hfk q0 _ H' ((gr1.trans g).free _ nq) g2 hq0 (prs_kvs hpr)
end
end LW
namespace LW
open PySem PySem.Spec PyProof.Rows L2 GxR
abbrev s_references : Stmt := topS 21
abbrev N_references : List Str := ["kind", "text", "_", "address"]
abbrev P_references : List Str := ["kind", "text"]
theorem sc_references : FnScope N_references P_references (defScope s_references) := ⟨rfl, rfl, rfl, by decide +kernel, rfl, by decide +kernel, by decide +kernel⟩
/-- of a text without fault -/
def spRefs (B1 B2 : Addr) : Sp := fun vs H Q _ => ∃ (k t : Str) (ys : List Str), vs = [.str k, .str t] ∧ t.length ≤ 5000 ∧ TabG H B1 ∧ TabG H B2 ∧
  ((k = "image" ∧ faultN false (lns t) = none ∧ ys = mid (lns t)) ∨ (k = "bundle" ∧ faultN true (lns t) = none ∧ ys = (mid (lns t)).map adr) ∨ (k ≠ "image" ∧ k ≠ "bundle" ∧ ys = [])) ∧
  ∀ p H', H p = none → Gr H H' → H' p = some (.lst (ys.map V.str)) → Q (.ref p) H'
def spReadIc (B1 : Addr) : Sp := fun vs H Q _ => ∃ t : Str, vs = [.str t] ∧ t.length ≤ 5000 ∧ TabG H B1 ∧ faultN false (lns t) = none ∧ ∀ p H', H p = none → Gr H H' → H' p = some (.lst ((mid (lns t)).map V.str)) → Q (.ref p) H'
def spReadBc (K : PySem.W.Frag) (B1 B2 : Addr) : Sp := fun vs H Q _ => ∃ t : Str, vs = [.str t] ∧ t.length ≤ 5000 ∧ TabG H B1 ∧ TabG H B2 ∧ faultN true (lns t) = none ∧ ∀ p ts H', H p = none → Gr H H' → H' p = some (.lst ts) → Prs K H' ts ((mid (lns t)).map prt) → Q (.ref p) H'
/-- all that the module's texts give -/
structure Mods (P : Program) (w : World) (K : PySem.W.Frag) (mg : Str → Option Value) (base : Heap) (cM B1 B2 fR fW : Addr) (dR dW : FuncData) : Prop where
  RI : FnOk P w K mg base (L2.CX P w) 4 fR dR P_read_image (spReadI cM B1)
  aI : mg "read_image" = some (.ref fR)
  kI : PySem.W.keepIn K (.ref fR) = true
  bI : Binds K dR P_read_image []
  RB : FnOk P w K mg base (L2.CX P w) 4 fW dW P_read_bundle (spReadB K cM B1 B2)
  aB : mg "read_bundle" = some (.ref fW)
  kB : PySem.W.keepIn K (.ref fW) = true
  bB : Binds K dW P_read_bundle []
section
variable {P : Program} {w : World} {K : PySem.W.Frag} {mg : Str → Option Value} {base : Heap} {cM cR cU : Addr}
theorem eq_str (x y : Str) : decide (V.str x = V.str y) = decide (x = y) := by
  apply decide_eq_decide.mpr
  constructor
  · intro h; injection h
  · intro h; rw [h]
theorem ok_references {f fR fW B1 B2 : Addr} {fd dR dW : FuncData} (F : Fun K "references" "references" s_references f fd) (T : Tx K mg cM cR cU) (M : Mods P w K mg base cM B1 B2 fR fW dR dW) :
    FnOk P w K mg base CX0 5 f fd P_references (spRefs B1 B2) := by
  have GI : FnOk P w K mg base CX0 4 fR dR P_read_image (spReadIc B1) := calm_of M.RI fun vs H Q E h => by
    obtain ⟨t, e, hl, hB, hf, q⟩ := h
    exact ⟨t, e, hl, hB, (fun k hk => by rw [hf] at hk; cases hk), fun _ => q⟩
  have GB : FnOk P w K mg base CX0 4 fW dW P_read_bundle (spReadBc K B1 B2) := calm_of M.RB fun vs H Q E h => by
    obtain ⟨t, e, hl, hB, hB2, hf, q⟩ := h
    exact ⟨t, e, hl, hB, hB2, (fun k hk => by rw [hf] at hk; cases hk), fun _ => q⟩
  refine F.ok sc_references (fun vs H Q E h => ?_) (fun cdv A outer s H vs Q E hr h => ?_)
  · obtain ⟨k, t, ys, rfl, _⟩ := h
    rfl
  · obtain ⟨k, t, ys, rfl, hl, hB1, hB2, hc, q⟩ := h
    have nd := sc_references.nd
    obtain ⟨t1, c1⟩ := T.IMAGE
    obtain ⟨t2, c2⟩ := T.BUNDLE
    refine ⟨_, pss_cons (ps_if (pt_cmpR op_eq (pv 0) (pe_glob (v := .str "image") (by rfl) c1 ⟨_, rfl⟩) (nomark _))
    (pss_one (ps_ret (pe_call GI hr rfl M.aI M.kI M.bI .nil pass0 (pa_cons (pv 1) pa_nil))))
    (pss_nil))
  (pss_cons (ps_if (pt_cmpR op_eq (pv 0) (pe_glob (v := .str "bundle") (by rfl) c2 ⟨_, rfl⟩) (nomark _))
    (pss_one (ps_ret (pe_lc (own := [("_", 2), ("address", 3)]) (g := gTup K 2 (gCons (gName 2) (gCons (gName 3) gNil))) (tt := tYes) rfl nd (pi_list (pe_call GB hr rfl M.aB M.kB M.bB .nil pass0 (pa_cons (pv 1) pa_nil))) (blkOk_by (N := N_references) (sc := defScope s_references) (by decide +kernel)) (fun _ _ _ _ _ => (pg_tup rfl (pgs_cons (pg_name (i := 2) nd rfl (Or.inl rfl)) (pgs_cons (pg_name (i := 3) nd rfl (Or.inl rfl)) pgs_nil)))) (fun _ _ _ _ _ => pts_nil) (fun _ _ _ _ _ => (pv 3)))))
    (pss_nil))
  (pss_one (ps_ret (pe_lst pa_nil)))), ?_⟩
    refine ⟨_, rfl, rfl, _, rfl, ?_⟩
    rw [eq_str]
    rcases hc with ⟨rfl, hf, rfl⟩ | ⟨rfl, hf, rfl⟩ | ⟨n1, n2, rfl⟩
    · refine iteT ?_
      exact ⟨_, rfl, t, rfl, hl, hB1, hf, q⟩
    · refine iteF ⟨_, rfl, rfl, _, rfl, ?_⟩
      rw [eq_str]
      refine iteT ?_
      refine ⟨_, rfl, t, rfl, hl, hB1, hB2, hf, fun p ts H1 np g hp hP => ?_⟩
      have ln := hP.len
      rw [List.length_map, mid_len] at ln
      have lt := lns_len t
      refine ⟨p, rfl, ⟨_, SqL.of hp⟩, fun D nD => lc_pair (walk_list (K := K) (a := p) (xs := ts)) (vs := [2, 3]) (te := tVar 3) (fun i => .str (adr ((mid (lns t)).getD i ""))) ?_ ?_ (fun _ _ => rfl) ?_ ?_⟩
      · omega
      · intro H2 hb
        exact hb.list nD (SqL.of hp)
      · rintro i x H2 H3 hi hb ⟨rfl, hx⟩
        obtain ⟨pr, t0, ep, rfl, ht⟩ := hP.get hx
        rw [List.getElem?_map] at ep
        cases e : (mid (lns t))[i]? with
        | none => rw [e] at ep; cases ep
        | some z =>
          rw [e] at ep
          cases ep
          have e9 : (mid (lns t)).getD i "" = z := by rw [List.getD_eq_getElem?_getD, e]; rfl
          refine ⟨t0, .str (nam z), .str (adr z), rfl, rfl, SqT.of ((hb.same nD) _ _ ht), fun Q2 kk => ⟨_, rfl, ?_⟩⟩
          rw [e9] at kk
          exact kk
      · have et : ((List.range ts.length).map fun i => V.str (adr ((mid (lns t)).getD i ""))) = ((mid (lns t)).map adr).map V.str := by
          rw [ln, ← mid_len, range_map_get (fun z : Str => V.str (adr z)) ("" : Str) (mid (lns t)), List.map_map]
          rfl
        rw [et]
        exact q D _ (g.free _ nD) (g.upd nD) upd_same
    · rw [decide_eq_false n1]
      refine iteF ⟨_, rfl, rfl, _, rfl, ?_⟩
      rw [eq_str, decide_eq_false n2]
      refine iteF ⟨by show 0 ≤ sizeLine; decide, fun p np => q p _ np ((Gr.refl _).upd np) upd_same⟩
end
end LW
namespace LW
open PySem PySem.Spec PyProof.Rows L2 GxR
abbrev s_law_state : Stmt := topS 29
abbrev N_law_state : List Str := ["script", "cells", "cell"]
abbrev P_law_state : List Str := ["script"]
theorem sc_law_state : FnScope N_law_state P_law_state (defScope s_law_state) := ⟨rfl, rfl, rfl, by decide +kernel, rfl, by decide +kernel, by decide +kernel⟩
abbrev s_law_take : Stmt := topS 30
abbrev N_law_take : List Str := ["state", "most", "cells", "at", "cell", "mixed"]
abbrev P_law_take : List Str := ["state", "most"]
theorem sc_law_take : FnScope N_law_take P_law_take (defScope s_law_take) := ⟨rfl, rfl, rfl, by decide +kernel, rfl, by decide +kernel, by decide +kernel⟩
section
variable {P : Program} {w : World} {K : PySem.W.Frag} {mg : Str → Option Value} {base : Heap} {cM cR cU : Addr}
theorem ok_state {f : Addr} {fd : FuncData} (F : Fun K "_law_state" "_law_state" s_law_state f fd) (T : Tx K mg cM cR cU) : FnOk P w K mg base CX0 1 f fd P_law_state (spState K) := by
  refine F.ok sc_law_state (fun vs H Q E h => ?_) (fun cdv A outer s H vs Q E hr h => ?_)
  · obtain ⟨l, ns, rfl, _⟩ := h
    rfl
  · obtain ⟨l, ns, rfl, hS, hl, q⟩ := h
    have nd := sc_law_state.nd
    refine ⟨_, pss_cons (ps_setLc (i := 1) (own := [("cell", 2)]) (g := gName 2) (tt := tYes) rfl nd rfl rfl (sw_true rfl rfl rfl (by decide +kernel)) (pi_list (pe_slice sl_list (pv 0) po_none (po_some pe_int))) (blkOk_by (N := N_law_state) (sc := defScope s_law_state) (by decide +kernel)) (fun _ _ _ _ _ => (pg_name (i := 2) nd rfl (Or.inl rfl))) (fun _ _ _ _ _ => pts_nil) (fun _ _ _ _ _ => (pe_callB call_abs (by rfl) T.abs (by decide +kernel) (pa_cons (pv 2) pa_nil))))
  (pss_cons (ps_if (pt_cmpR op_eq (pe_callB call_len_seq (by rfl) T.len (by decide +kernel) (pa_cons (pv 1) pa_nil)) pe_int (nomark _))
    (pss_one (ps_set (i := 1) nd rfl (.inl rfl) (pe_lst (pa_cons pe_int pa_nil))))
    (pss_nil))
  (pss_one (ps_ret (pe_lst (pa_cons pe_int (pa_cons (pv 1) pa_nil)))))), ?_⟩
    obtain ⟨zs, ez, lz, _⟩ := cutV_map V.int ns none (some 63)
    refine ⟨.ref l, rfl, 63, rfl, l, _, rfl, hS, fun p np => ?_⟩
    rw [ez]
    have s1 : Same H (upd H p (.lst (zs.map V.int))) := same_upd np
    refine ⟨p, rfl, ⟨_, SqL.of upd_same⟩, fun D nD => lc_map (walk_list (K := K) (a := p) (xs := zs.map V.int)) (σ := [some (.ref l), none, none]) (vs := [2])
      (fun i => .int (if zs.getD i 0 < 0 then -zs.getD i 0 else zs.getD i 0)) ?_ ?_ (fun _ => rfl) ?_ ?_⟩
    · rw [List.length_map]
      exact Nat.lt_of_le_of_lt (Nat.le_trans lz hl) (by decide)
    · intro H2 hb
      exact hb.list nD (SqL.of upd_same)
    · rintro i x H2 H3 hi hb ⟨rfl, hx⟩
      rw [List.getElem?_map] at hx
      cases e : zs[i]? with
      | none => rw [e] at hx; cases hx
      | some z =>
        rw [e] at hx
        cases hx
        refine ⟨rfl, fun Q2 k => ⟨_, rfl, z, rfl, ?_⟩⟩
        have : zs.getD i 0 = z := by rw [List.getD_eq_getElem?_getD, e]; rfl
        rw [this] at k
        exact k
    · rw [List.length_map]
      have em : ((List.range zs.length).map fun i => V.int (if zs.getD i 0 < 0 then -zs.getD i 0 else zs.getD i 0)) = (zs.map fun z => if z < 0 then -z else z).map V.int := by
        rw [range_map_get (fun z : Int => V.int (if z < 0 then -z else z)) 0 zs, List.map_map]
        rfl
      rw [em]
      have s2 : Same H (upd (upd H p (.lst (zs.map V.int))) D (.lst ((zs.map fun z => if z < 0 then -z else z).map V.int))) := s1.trans (same_upd nD)
      have fin : ∀ (c : Addr) (cs : List Int) (H2 : Hp), Same H H2 → H c = none → H2 c = some (.lst (cs.map V.int)) → 0 < cs.length → cs.length ≤ 63 → (∀ z ∈ cs, 0 ≤ z) →
          ∀ x, H2 x = none → Q (.ref x) (upd H2 x (.lst [.int 0, .ref c])) := by
        intro c cs H2 sm nc hc h0 h63 hnn x nx
        have ncx : c ≠ x := ne_of_none hc nx
        refine q x c _ (sm.free nx) nc (sm.trans (same_upd nx)) ⟨0, cs, upd_same, ?_, ncx.symm, h0, h63, hnn, by omega⟩
        rw [upd_ne ncx]
        exact hc
      refine ⟨_, rfl, D, _, rfl, .inl (SqL.of upd_same), rfl, _, rfl, ite2 (fun e => ?_) (fun e => ?_)⟩
      · refine ⟨by show 1 ≤ sizeLine; decide, fun c nc => ?_⟩
        refine ⟨_, rfl, by show 2 ≤ sizeLine; decide, ?_⟩
        exact fin c [0] _ (s2.trans (same_upd nc)) (s2.free nc) upd_same (by decide) (by decide) (by decide)
      · refine ⟨_, rfl, by show 2 ≤ sizeLine; decide, ?_⟩
        refine fin D (zs.map fun z => if z < 0 then -z else z) _ s2 (s1.free nD) upd_same ?_ ?_ ?_
        · have e' := of_decide_eq_false (eq_false_of_ne_true e)
          rw [List.length_map]
          rw [List.length_map, List.length_map] at e'
          rcases Nat.eq_zero_or_pos zs.length with h | h
          · exact absurd (by rw [h]; rfl) e'
          · exact h
        · rw [List.length_map]
          omega
        · intro z hz
          obtain ⟨y, _, rfl⟩ := List.mem_map.mp hz
          split <;> omega
theorem ok_take {f : Addr} {fd : FuncData} (F : Fun K "_law_take" "_law_take" s_law_take f fd) (z_len : mg "len" = none) (z_int : mg "int" = none) : FnOk P w K mg base CX0 1 f fd P_law_take spTake := by
  refine F.ok sc_law_take (fun vs H Q E h => ?_) (fun cdv A outer s H vs Q E hr h => ?_)
  · obtain ⟨a, c, m, rfl, _⟩ := h
    rfl
  · obtain ⟨a, c, m, rfl, ⟨n, cs, ha, hc, hac, h0, h63, hnn, hn⟩, hm1, hm2, q⟩ := h
    have nd := sc_law_take.nd
    refine ⟨_, pss_cons (ps_set (i := 2) nd rfl (.inl rfl) (pe_ix ix_list (pv 0) pe_int (fun _ _ => rfl)))
  (pss_cons (ps_set (i := 3) nd rfl (.inl rfl) (pe_op op_mod (pe_ix ix_list (pv 0) pe_int (fun _ _ => rfl)) (pe_callB call_len_seq (by rfl) z_len (by decide +kernel) (pa_cons (pv 2) pa_nil))))
  (pss_cons (ps_set (i := 4) nd rfl (.inl rfl) (pe_ix ix_list (pv 2) (pv 3) (fun _ _ => rfl)))
  (pss_cons (ps_if (pt_cmpR op_ge (pv 4) pe_int (nomark _))
    (pss_cons (ps_asg (pe_op op_fdiv (pv 4) (pv 1)) (pg_sub (pv 2) (pv 3) set_list))
  (pss_one (ps_ret (pe_op op_mod (pv 4) (pv 1)))))
    (pss_nil))
  (pss_cons (ps_asg (pe_op op_add (pe_ix ix_list (pv 0) pe_int (fun _ _ => rfl)) pe_int) (pg_sub (pv 0) pe_int set_list))
  (pss_cons (ps_set (i := 5) nd rfl (.inl rfl) (pe_op op_mod (pe_callTy call_int1 (by rfl) z_int (by decide +kernel) (pa_cons (pe_op op_add (pe_op op_mul (pv 4) pe_int) (pe_op op_mul (pe_ix ix_list (pv 0) pe_int (fun _ _ => rfl)) pe_int)) pa_nil)) pe_int))
  (pss_cons (ps_set (i := 5) nd rfl (.inl rfl) (pe_op op_mod (pe_callTy call_int1 (by rfl) z_int (by decide +kernel) (pa_cons (pe_op op_add (pe_op op_mul (pv 5) pe_int) (pe_op op_mul (pe_ix ix_list (pv 0) pe_int (fun _ _ => rfl)) pe_int)) pa_nil)) pe_int))
  (pss_one (ps_ret (pe_op op_mod (pe_op op_fdiv (pv 5) pe_int) (pv 1)))))))))), ?_⟩
    have hA : SqL K H a [.int n, .ref c] := SqL.of ha
    have hC : SqL K H c (cs.map V.int) := SqL.of hc
    have hl : (0 : Int) < (((cs.map V.int).length : Nat) : Int) := by rw [List.length_map]; omega
    have e0 : 0 ≤ n % ((cs.map V.int).length : Int) := Int.emod_nonneg _ (by omega)
    have e1 : n % ((cs.map V.int).length : Int) < ((cs.map V.int).length : Int) := Int.emod_lt_of_pos _ hl
    obtain ⟨j, hj⟩ : ∃ j : Nat, n % ((cs.map V.int).length : Int) = (j : Int) := ⟨_, (Int.toNat_of_nonneg e0).symm⟩
    have hjl : j < cs.length := by rw [List.length_map] at e1; rw [List.length_map] at hj; omega
    have gz : (cs.map V.int)[j]? = some (.int cs[j]) := by rw [List.getElem?_map, List.getElem?_eq_getElem hjl]; rfl
    have hz0 : 0 ≤ cs[j] := hnn _ (List.getElem_mem hjl)
    -- cells = state[1]; at = state[0] % len(cells); cell = cells[at]
    refine ⟨.ref a, rfl, a, _, 1, _, rfl, rfl, hA, at2_1, ?_⟩
    refine ⟨.ref a, rfl, a, _, 0, _, rfl, rfl, hA, at2_0, .ref c, rfl, c, _, rfl, .inl hC, _, _, rfl, rfl, hl, ?_⟩
    refine ⟨.ref c, rfl, _, rfl, c, _, _, .int cs[j], rfl, rfl, hC, by rw [hj]; exact atI_nat gz, ?_⟩
    -- if cell >= ..
    refine ⟨_, rfl, _, _, rfl, rfl, _, rfl, ite2 (fun _ => ?_) (fun _ => ?_)⟩
    · refine ⟨_, rfl, _, rfl, cs[j], m, rfl, rfl, ⟨by omega, by omega⟩, .ref c, rfl, _, rfl, c, _, _, j, rfl, rfl, hc, ?_, ?_⟩
      · unfold ixN
        rw [hj, List.length_map, if_pos (by omega), if_pos (by omega)]
        rfl
      · refine ⟨_, rfl, _, rfl, cs[j], m, rfl, rfl, by omega, ?_⟩
        refine q _ _ (Int.emod_nonneg _ (by omega)) (Int.emod_lt_of_pos _ (by omega)) (fun b _ hb => upd_ne hb) ⟨n, cs.set j (cs[j] / m), ?_, ?_, hac, by rw [List.length_set]; exact h0, by rw [List.length_set]; exact h63, ?_, hn⟩
        · rw [upd_ne hac]; exact ha
        · rw [upd_same, List.map_set]
        · intro z hz
          rcases List.mem_or_eq_of_mem_set hz with h | h
          · exact hnn z h
          · rw [h]; exact Int.ediv_nonneg hz0 (by omega)
    · refine ⟨.ref a, rfl, a, _, 0, _, rfl, rfl, hA, at2_0, n, 1, rfl, rfl, .ref a, rfl, a, _, 0, 0, rfl, rfl, ha, rfl, ?_⟩
      have ha' : (upd H a (.lst [.int (n + 1), .ref c])) a = some (.lst [.int (n + 1), .ref c]) := upd_same
      have hA' : SqL K (upd H a (.lst [.int (n + 1), .ref c])) a [.int (n + 1), .ref c] := SqL.of ha'
      refine ⟨_, rfl, cs[j], _, rfl, rfl, .inr ⟨by decide, by decide⟩, .ref a, rfl, a, _, 0, _, rfl, rfl, hA', at2_0, _, _, rfl, rfl, .inr ⟨by decide, by decide⟩, _, _, rfl, rfl, .inl ⟨_, rfl, ?_⟩⟩
      refine ⟨_, _, rfl, rfl, by show (0 : Int) < 2147483647; decide, ?_⟩
      refine ⟨_, rfl, _, _, rfl, rfl, .inr ⟨by decide, by decide⟩, .ref a, rfl, a, _, 0, _, rfl, rfl, hA', at2_0, _, _, rfl, rfl, .inr ⟨by decide, by decide⟩, _, _, rfl, rfl, .inl ⟨_, rfl, ?_⟩⟩
      refine ⟨_, _, rfl, rfl, by show (0 : Int) < 1000000007; decide, ?_⟩
      refine ⟨_, rfl, _, _, rfl, rfl, ⟨by decide, by decide⟩, _, rfl, _, m, rfl, rfl, by omega, ?_⟩
      refine q _ _ (Int.emod_nonneg _ (by omega)) (Int.emod_lt_of_pos _ (by omega)) (fun b hb _ => upd_ne hb) ⟨n + 1, cs, ha', ?_, hac, h0, h63, hnn, by omega⟩
      rw [upd_ne (Ne.symm hac)]
      exact hc
end
abbrev s_law_text : Stmt := topS 32
abbrev N_law_text : List Str := ["state", "most", "k"]
abbrev P_law_text : List Str := ["state", "most"]
theorem sc_law_text : FnScope N_law_text P_law_text (defScope s_law_text) := ⟨rfl, rfl, rfl, by decide +kernel, rfl, by decide +kernel, by decide +kernel⟩
section
variable {P : Program} {w : World} {K : PySem.W.Frag} {mg : Str → Option Value} {base : Heap} {cM cR cU : Addr}
theorem ok_law_text {f : Addr} {fd : FuncData} (F : Fun K "_law_text" "_law_text" s_law_text f fd) (T : Tx K mg cM cR cU)
    (C__law_take : Cal P w K mg base CX0 1 "_law_take" P_law_take spTake) : FnOk P w K mg base CX0 2 f fd P_law_text spText := by
  refine F.ok sc_law_text (fun vs H Q E h => ?_) (fun cdv A outer s H vs Q E hr h => ?_)
  · obtain ⟨_, _, _, rfl, _⟩ := h
    rfl
  · obtain ⟨a, c, m, rfl, s0, hm, q⟩ := h
    have nd := sc_law_text.nd
    refine ⟨_, pss_one (ps_ret (pe_join pe_str (pe_lc (own := [("k", 2)]) (g := gName 2) (tt := tYes) rfl nd (pi_range1 (by rfl) T.range (pa_cons (pe_cal C__law_take hr (pa_cons (pv 0) (pa_cons (pe_op op_add (pv 1) pe_int) pa_nil))) pa_nil)) (blkOk_by (N := N_law_text) (sc := defScope s_law_text) (by decide +kernel)) (fun _ _ _ _ _ => (pg_name (i := 2) nd rfl (Or.inl rfl))) (fun _ _ _ _ _ => pts_nil) (fun _ _ _ _ _ => (pe_ix ix_str pe_str (pe_cal C__law_take hr (pa_cons (pv 0) (pa_cons pe_int pa_nil))) (fun _ _ => rfl)))))), ?_⟩
    refine ⟨⟨_, rfl⟩, .ref a, rfl, _, rfl, _, _, rfl, rfl, a, c, (m : Int) + 1, rfl, s0, by omega, by omega, fun v H1 v0 v1 e1 s1 => ?_⟩
    obtain ⟨n, rfl, hn⟩ := nat_of v0 v1
    refine ⟨_, rfl, by omega, by omega, fun D nD => ?_⟩
    have nDa := s1.ne nD
    have nD0 := (Mv.take s0 s1 e1).free D nD
    show ∃ W : Nat → Nat → Hp → Prop, _
    refine lc_range (lo := 0) (n := n) (fun i H' => ∃ xs : List Nat, xs.length = i ∧ (∀ z ∈ xs, z ∈ drawn) ∧ H' D = some (.lst (xs.map fun c => V.str ⟨#[c]⟩)) ∧ SL H' a c ∧ Mv a c H H')
      ⟨[], rfl, (by simp), upd_same, s1.same (same_upd nD), (Mv.take s0 s1 e1).new nD0⟩ ?_ ?_
    · rintro i H4 hi ⟨xs, lx, hx, hD, s4, m4⟩
      refine ⟨rfl, tyes ⟨_, rfl, a, c, 8, rfl, s4, by decide, by decide, fun v H5 v0 v8 e5 s5 => ?_⟩⟩
      obtain ⟨z, rfl, hz⟩ := nat_of v0 v8
      have hzl : z < drawn.length := by show z < 8; omega
      refine ⟨_, _, drawn[z], rfl, rfl, by decide +kernel, ?_, _, by rw [e5 D nDa.1 nDa.2]; exact hD, ?_, xs ++ [drawn[z]], by simp [lx], ?_, ?_, ?_, ?_⟩
      · rw [drawn_eq]
        exact atI_nat (List.getElem?_eq_getElem hzl)
      · rw [List.length_map, lx]
        exact Nat.lt_of_lt_of_le (show i < 1001 by omega) (by decide)
      · intro y hy
        rcases List.mem_append.mp hy with h | h
        · exact hx y h
        · rw [List.mem_singleton.mp h]
          exact List.getElem_mem hzl
      · rw [upd_same, List.map_append]
        rfl
      · exact s5.eq (upd_ne nDa.1.symm) (upd_ne nDa.2.symm)
      · exact (m4.trans (Mv.take s4 s5 e5)).new nD0
    · rintro H4 ⟨xs, lx, hx, hD, s4, m4⟩
      have et : (xs.map fun c => V.str (⟨#[c]⟩ : Str)) = (xs.map fun c => (⟨#[c]⟩ : Str)).map V.str := by rw [List.map_map]; rfl
      rw [et] at hD
      have tj := join_one xs
      refine ⟨_, D, xs.map fun c => (⟨#[c]⟩ : Str), rfl, rfl, .inl (SqL.of hD), ?_, ?_⟩
      · have := sum_le (fun l : Str => l.length) 1 (xs.map fun c => (⟨#[c]⟩ : Str)) fun x hx => by
          obtain ⟨y, hy, rfl⟩ := List.mem_map.mp hx
          exact Nat.le_refl 1
        have z : (Str.ofString "").length = 0 := by decide +kernel
        rw [z, Nat.mul_zero, Nat.add_zero]
        refine Nat.le_trans this ?_
        rw [List.length_map]
        omega
      · refine q _ H4 ?_ ?_ s4 m4
        · rw [TL.len_tl, tj, lx]; omega
        · intro z hz
          exact hx z (by rw [← tj]; exact hz)
end
def stepN (n c : Nat) : Nat := (n * 257 + c + 1) % 2305843009213693951
def addrNum (j : Nat) (l : List Nat) : Nat := l.foldl stepN (j + 1)
theorem addrNum_lt {j : Nat} (h : j < 3) : ∀ l, addrNum j l < 16 ^ 16 := by
  intro l
  unfold addrNum
  have : ∀ (l : List Nat) (n : Nat), n < 2305843009213693951 → l.foldl stepN n < 2305843009213693951 := by
    intro l
    induction l with
    | nil => intro n h; exact h
    | cons c r ih => intro n h; exact ih _ (Nat.mod_lt _ (by decide))
  exact Nat.lt_trans (this l (j + 1) (by omega)) (by decide)
theorem stepN_int (n c : Nat) : ((n : Int) * 257 + (c : Int) + 1) % 2305843009213693951 = ((stepN n c : Nat) : Int) := by
  unfold stepN
  omega
theorem fold_take {α β : Type} (g : β → α → β) (b : β) (l : List α) (i : Nat) (c : α) (h : l[i]? = some c) : (l.take (i + 1)).foldl g b = g ((l.take i).foldl g b) c := by
  rw [List.take_add_one, h, List.foldl_append]
  rfl
theorem isAddr_hexS (n : Nat) : isAddr (hexS n) = true := by
  unfold isAddr
  rw [Bool.and_eq_true]
  refine ⟨decide_eq_true (hexS_len n), List.all_eq_true.mpr fun c h => decide_eq_true (hx_mem 16 n c ?_)⟩
  simpa [hexS] using h
abbrev s_address_of : Stmt := topS 6
abbrev N_address_of : List Str := ["kind", "text", "number", "character"]
abbrev P_address_of : List Str := ["kind", "text"]
theorem sc_address_of : FnScope N_address_of P_address_of (defScope s_address_of) := ⟨rfl, rfl, rfl, by decide +kernel, rfl, by decide +kernel, by decide +kernel⟩
def spAddr : Sp := fun vs H Q _ => ∃ (k t : Str) (j : Nat), vs = [.str k, .str t] ∧ kinds[j]? = some k ∧ j < 3 ∧ Q (.str (hexS (addrNum j t.cps.toList))) H
theorem kinds_first {j : Nat} {k : Str} (h : kinds[j]? = some k) : ∀ m, m < j → kinds[m]? ≠ some k := by
  have key : ∀ j : Fin 3, ∀ m : Fin 3, m.val < j.val → kinds[m.val]? ≠ kinds[j.val]? := by decide +kernel
  have hj : j < 3 := by
    have := (List.getElem?_eq_some_iff.mp h).1
    simpa [kinds] using this
  intro m hm
  have := key ⟨j, hj⟩ ⟨m, by omega⟩ hm
  rw [← h]
  exact this
section
variable {P : Program} {w : World} {K : PySem.W.Frag} {mg : Str → Option Value} {base : Heap} {cM cR cU : Addr}
theorem ok_address_of {f : Addr} {fd : FuncData} (F : Fun K "address_of" "address_of" s_address_of f fd) (T : Tx K mg cM cR cU) : FnOk P w K mg base CX0 1 f fd P_address_of spAddr := by
  refine F.ok sc_address_of (fun vs H Q E h => ?_) (fun cdv A outer s H vs Q E hr h => ?_)
  · obtain ⟨k, t, j, rfl, _⟩ := h
    rfl
  · obtain ⟨k, t, j, rfl, hj, j3, q⟩ := h
    have nd := sc_address_of.nd
    obtain ⟨kd, cKD, kdo⟩ := T.KINDS
    obtain ⟨tf, cF⟩ := T.FACTOR
    obtain ⟨tm, cM⟩ := T.MODULUS
    refine ⟨_, pss_cons (ps_set (i := 2) nd rfl (.inl rfl) (pe_op op_add (pe_bm PySem.F.plainAttrs_tuple PySem.F.slot_tuple_index PySem.F.type_tuple_index mt_tup_index (pe_glob (v := .ref kd) (by rfl) cKD rfl) (pa_cons (pv 0) pa_nil)) pe_int))
  (pss_cons (ps_for PassesOwn.never rfl (pi_str (pv 1)) (pg_name (i := 3) nd rfl (.inl rfl))
    (pss_one (ps_set (i := 2) nd rfl (.inl rfl) (pe_op op_mod (pe_op op_add (pe_op op_add (pe_op op_mul (pv 2) (pe_glob (v := .int 257) (by rfl) cF ⟨_, rfl⟩)) (pe_callB call_ord (by rfl) T.ord (by decide +kernel) (pa_cons (pv 3) pa_nil))) pe_int) (pe_glob (v := .int 2305843009213693951) (by rfl) cM ⟨_, rfl⟩)))))
  (pss_one (ps_ret (pe_joined1 (pe_hex (pv 2)))))), ?_⟩
    refine ⟨?_, .str k, rfl, kd, kinds, k, j, rfl, rfl, (by obtain ⟨o, its, n, h1, h2, _, h4, h5, h6⟩ := kdo; exact .inr ⟨o, its, n, h1, h2, h4, h5, h6⟩), hj, kinds_first hj, _, _, rfl, rfl, ?_⟩
    · obtain ⟨o, its, n, h1, h2, h3, _⟩ := kdo
      exact .inr (.inl ⟨rfl, o, h1, h2, h3⟩)
    refine ⟨.str t, rfl, t, rfl, ?_⟩
    refine for_it walk_str (fun i σ H' => H' = H ∧ ∃ v, σ = [some (.str k), some (.str t), some (.int (addrNum j (t.cps.toList.take i) : Nat)), v]) ⟨rfl, none, ?_⟩ (fun _ _ _ _ _ => True.intro) ?_ ?_
    · rfl
    · rintro i x σ H1 H2 hi ⟨rfl, v, rfl⟩ ⟨rfl, c, hc, rfl⟩
      refine ⟨_, rfl, _, _, rfl, rfl, .inr ⟨by decide, by decide⟩, _, rfl, ⟨#[c]⟩, rfl, rfl, _, _, rfl, rfl, _, _, rfl, rfl, _, _, rfl, rfl, ?_, rfl, some (.str ⟨#[c]⟩), ?_⟩
      · show (0 : Int) < 2305843009213693951
        decide
      · have hc' : t.cps.toList[i]? = some c := by rw [Array.getElem?_toList]; exact hc
        unfold addrNum
        rw [fold_take stepN _ _ _ _ hc', ← stepN_int]
        rfl
    · rintro σ H1 ⟨rfl, v, rfl⟩
      have e : t.cps.toList.take t.cps.size = t.cps.toList := List.take_of_length_le (by simp)
      rw [e]
      exact ⟨_, rfl, _, rfl, addrNum_lt j3 _, q⟩
end
abbrev s_law_pick : Stmt := topS 33
abbrev N_law_pick : List Str := ["state", "known"]
abbrev P_law_pick : List Str := ["state", "known"]
theorem sc_law_pick : FnScope N_law_pick P_law_pick (defScope s_law_pick) := ⟨rfl, rfl, rfl, by decide +kernel, rfl, by decide +kernel, by decide +kernel⟩
/-- one of the known, or an address of nothing -/
def spPick : Sp := fun vs H Q _ => ∃ (a c l : Addr) (ks : List Str), vs = [.ref a, .ref l] ∧ SL H a c ∧ H l = some (.lst (ks.map V.str)) ∧ ks.length < 1000 ∧ (∀ x ∈ ks, isAddr x = true) ∧
  ∀ x H', isAddr x = true → SL H' a c → Mv a c H H' → Q (.str x) H'
theorem made_addr (n : Nat) (h : n < 90) : isAddr (Str.ofString "00000000000000" ++ Str.ofString (toString ((10 : Int) + (n : Int)))) = true := by
  have key : ∀ n : Fin 90, isAddr (Str.ofString "00000000000000" ++ Str.ofString (toString ((10 : Int) + (n.val : Int)))) = true := by decide +kernel
  exact key ⟨n, h⟩
theorem sl_lst {H : Hp} {a c l : Addr} {xs : List Str} (s : SL H a c) (h : H l = some (.lst (xs.map V.str))) : l ≠ a ∧ l ≠ c := by
  obtain ⟨n, cs, h1, h2, _, h3, _⟩ := s
  constructor
  · refine ne_of h h1 fun z => ?_
    cases xs with
    | nil => cases z
    | cons x r => cases z
  · refine ne_of h h2 fun z => ?_
    cases xs with
    | nil => cases cs with
      | nil => exact absurd h3 (by decide)
      | cons y r' => cases z
    | cons x r => cases cs with
      | nil => exact absurd h3 (by decide)
      | cons y r' => cases z
section
variable {P : Program} {w : World} {K : PySem.W.Frag} {mg : Str → Option Value} {base : Heap} {cM cR cU : Addr}
theorem ok_law_pick {f : Addr} {fd : FuncData} (F : Fun K "_law_pick" "_law_pick" s_law_pick f fd) (T : Tx K mg cM cR cU)
    (C__law_take : Cal P w K mg base CX0 1 "_law_take" P_law_take spTake) : FnOk P w K mg base CX0 2 f fd P_law_pick spPick := by
  refine F.ok sc_law_pick (fun vs H Q E h => ?_) (fun cdv A outer s H vs Q E hr h => ?_)
  · obtain ⟨_, _, _, _, rfl, _⟩ := h
    rfl
  · obtain ⟨a, c, l, ks, rfl, s0, hl, hk, had, q⟩ := h
    have nd := sc_law_pick.nd
    refine ⟨_, pss_cons (ps_if (PW.pt (pw_or (pt_cmpR op_eq (pe_callB call_len_seq (by rfl) T.len (by decide +kernel) (pa_cons (pv 1) pa_nil)) pe_int (nomark _)) (pw_or1 (pt_cmpR op_eq (pe_cal C__law_take hr (pa_cons (pv 0) (pa_cons pe_int pa_nil))) pe_int (nomark _)))))
    (pss_one (ps_ret (pe_op op_add_str pe_str (pe_callTy call_str_int (by rfl) T.str (by decide +kernel) (pa_cons (pe_op op_add pe_int (pe_cal C__law_take hr (pa_cons (pv 0) (pa_cons pe_int pa_nil)))) pa_nil)))))
    (pss_nil))
  (pss_one (ps_ret (pe_ix ix_list (pv 1) (pe_op op_sub (pe_op op_sub (pe_callB call_len_seq (by rfl) T.len (by decide +kernel) (pa_cons (pv 1) pa_nil)) pe_int) (pe_cal C__law_take hr (pa_cons (pv 0) (pa_cons (pe_callB call_len_seq (by rfl) T.len (by decide +kernel) (pa_cons (pv 1) pa_nil)) pa_nil)))) (fun _ _ => rfl)))), ?_⟩
    have fin : ∀ H1, Mv a c H H1 → SL H1 a c → ∀ v H2, 0 ≤ v → v < 90 → (∀ b, b ≠ a → b ≠ c → H2 b = H1 b) → SL H2 a c → (((10 : Int) + v).natAbs.log2 < 1920 ∧ (Str.ofString "00000000000000").length + (Str.ofString (toString ((10 : Int) + v))).length ≤ sizeLine) ∧ Q (.str (Str.ofString "00000000000000" ++ Str.ofString (toString ((10 : Int) + v)))) H2 := by
      intro H1 m1 s1 v H2 v0 v1 e2 s2
      obtain ⟨n, rfl, hn⟩ := nat_of v0 v1
      have key := made_addr n (by omega)
      refine ⟨⟨?_, ?_⟩, q _ H2 key s2 (m1.trans (Mv.take s1 s2 e2))⟩
      · have k2 : ∀ n : Fin 90, ((10 : Int) + (n.val : Int)).natAbs.log2 < 1920 := by decide +kernel
        exact k2 ⟨n, by omega⟩
      · have e := (addr_no key).2.2
        rw [app_len] at e
        rw [e]; decide
    refine ⟨_, rfl, l, _, rfl, .inl (SqL.of hl), rfl, _, rfl, ?_⟩
    rw [List.length_map]
    refine ite2 (fun _ => ?_) (fun e0 => ?_)
    · refine ⟨_, rfl, a, c, 90, rfl, s0, by decide, by decide, fun v H2 v0 v1 e2 s2 => ?_⟩
      obtain ⟨⟨g1, g2⟩, g3⟩ := fin H (Mv.refl a c H) s0 v H2 v0 v1 e2 s2
      exact ⟨_, _, rfl, rfl, _, rfl, g1, _, _, rfl, rfl, g2, g3⟩
    · have k0 : ks.length ≠ 0 := fun z => by
        have := of_decide_eq_false (eq_false_of_ne_true e0)
        rw [z] at this
        exact this rfl
      refine ⟨_, rfl, a, c, 8, rfl, s0, by decide, by decide, fun v1 H1 _ _ e1 s1 => ?_⟩
      have m1 := Mv.take s0 s1 e1
      have nla := sl_lst s0 hl
      have hl1 : H1 l = some (.lst (ks.map V.str)) := by rw [e1 l nla.1 nla.2]; exact hl
      refine ⟨rfl, _, rfl, ite2 (fun _ => ?_) (fun _ => ?_)⟩
      · refine ⟨_, rfl, a, c, 90, rfl, s1, by decide, by decide, fun v H2 v0 v1 e2 s2 => ?_⟩
        obtain ⟨⟨g1, g2⟩, g3⟩ := fin H1 m1 s1 v H2 v0 v1 e2 s2
        exact ⟨_, _, rfl, rfl, _, rfl, g1, _, _, rfl, rfl, g2, g3⟩
      · refine ⟨_, rfl, _, rfl, l, _, rfl, .inl (SqL.of hl1), _, _, rfl, rfl, _, rfl, _, rfl, l, _, rfl, .inl (SqL.of hl1), a, c, _, rfl, s1, ?_, ?_, fun v H2 v0 v1 e2 s2 => ?_⟩
        · rw [List.length_map]; omega
        · rw [List.length_map]; omega
        · rw [List.length_map] at v1
          obtain ⟨n, rfl, hn⟩ := nat_of v0 v1
          have hl2 : H2 l = some (.lst (ks.map V.str)) := by rw [e2 l nla.1 nla.2]; exact hl1
          have hlt : ks.length - 1 - n < ks.length := by omega
          have ei : (((ks.map V.str).length : Nat) : Int) - 1 - (n : Int) = ((ks.length - 1 - n : Nat) : Int) := by rw [List.length_map]; omega
          refine ⟨_, _, rfl, rfl, l, _, _, .str ks[ks.length - 1 - n], rfl, rfl, SqL.of hl2, ?_, q _ H2 (had _ (List.getElem_mem hlt)) s2 (m1.trans (Mv.take s1 s2 e2))⟩
          rw [ei]
          exact atI_nat (by rw [List.getElem?_map, List.getElem?_eq_getElem hlt]; rfl)
end
end LW
namespace LW
open PySem PySem.Spec PyProof.Rows L2 GxR
open TL (tl spl spl_nil spl_hit spl_miss pre)
def Asc (t : Str) : Prop := ∀ c ∈ tl t, c < 1000
theorem spl_sub (c : Nat) : ∀ (l acc : List Nat), ∀ p ∈ spl [c] 0 acc l, ∀ x ∈ p, x ∈ acc ∨ x ∈ l
  | [], acc, p, h, x, hx => by
    rw [spl_nil] at h
    rw [List.mem_singleton.mp h] at hx
    exact .inl hx
  | y :: r, acc, p, h, x, hx => by
    by_cases e : pre [c] (y :: r) = true
    · rw [spl_hit e] at h
      rcases List.mem_cons.mp h with h | h
      · rw [h] at hx; exact .inl hx
      · rcases spl_sub c r [] p h x hx with z | z
        · cases z
        · exact .inr (List.mem_cons_of_mem _ z)
    · rw [spl_miss (eq_false_of_ne_true e)] at h
      rcases spl_sub c r (acc ++ [y]) p h x hx with z | z
      · rcases List.mem_append.mp z with z | z
        · exact .inl z
        · rw [List.mem_singleton.mp z]; exact .inr List.mem_cons_self
      · exact .inr (List.mem_cons_of_mem _ z)
theorem lns_asc {t l : Str} (h : l ∈ lns t) (a : Asc t) : Asc l := fun x hx => by
  have m : tl l ∈ spl [10] 0 [] (tl t) := by rw [← lns_tl]; exact List.mem_map_of_mem h
  rcases spl_sub 10 (tl t) [] _ m x hx with z | z
  · cases z
  · exact a x z
theorem wds_asc {t l : Str} (h : l ∈ wds t) (a : Asc t) : Asc l := fun x hx => by
  have m : tl l ∈ spl [32] 0 [] (tl t) := by rw [← wds_tl]; exact List.mem_map_of_mem h
  rcases spl_sub 32 (tl t) [] _ m x hx with z | z
  · cases z
  · exact a x z
theorem Asc.ok {t : Str} (a : Asc t) : PyData.strOk t = true := by
  unfold PyData.strOk
  rw [← Array.all_toList, List.all_eq_true]
  intro x hx
  have := a x hx
  exact decide_eq_true (by omega)
/-! ### lists as data -/
theorem dp_strs {K : PySem.W.Frag} {H : Hp} : ∀ ls : List Str, DpAll K H (ls.map V.str) (ls.map PyData.str)
  | [] => .nil
  | x :: r => .cons (.str x) (dp_strs r)
theorem lay_strs : ∀ ls : List Str, (∀ x ∈ ls, PyData.strOk x = true) → PyData.canLayAll0 (ls.map PyData.str) = true ∧ PyData.depthAll (ls.map PyData.str) = 0
  | [], _ => ⟨rfl, rfl⟩
  | x :: r, h => by
    have ih := lay_strs r fun y hy => h y (List.mem_cons_of_mem _ hy)
    constructor
    · rw [List.map_cons, PyData.canLayAll0, ih.1, PyData.canLay0, h x List.mem_cons_self]; rfl
    · rw [List.map_cons, PyData.depthAll, ih.2, PyData.depth]; rfl
theorem shaped_strs {ls : List Str} (h : ∀ x ∈ ls, PyData.strOk x = true) : SeqAt.shaped (.list (ls.map PyData.str)) = true := by
  have l := lay_strs ls h
  unfold SeqAt.shaped
  rw [PyData.canLay0, l.1, PyData.depth, l.2]
  rfl
theorem eqv_nil (ls : List Str) : PyData.eqv (.list (ls.map PyData.str)) (.list []) = ls.isEmpty := by
  cases ls with
  | nil => rfl
  | cons x r => rfl
theorem Asc.of_addr {x : Str} (h : isAddr x = true) : Asc x := fun c hc => by
  unfold isAddr at h
  rw [Bool.and_eq_true] at h
  have := of_decide_eq_true (List.all_eq_true.mp h.2 c hc)
  have key : ∀ c ∈ hexDigits, c < 1000 := by decide
  exact key c this
theorem Asc.of_plat {x : Str} (h : isPlat x = true) : Asc x := fun c hc => by
  unfold isPlat at h
  rw [Bool.and_eq_true] at h
  have := of_decide_eq_true (List.all_eq_true.mp h.2 c hc)
  have key : ∀ c ∈ letters, c < 1000 := by decide
  exact key c this
theorem word_asc (b : Bool) : Asc (word b) ∧ (word b).length ≤ 6 ∧ 10 ∉ TL.tl (word b) := by
  cases b
  · exact ⟨show ∀ c ∈ TL.tl (word false), c < 1000 by decide +kernel, by decide +kernel, by decide +kernel⟩
  · exact ⟨show ∀ c ∈ TL.tl (word true), c < 1000 by decide +kernel, by decide +kernel, by decide +kernel⟩
theorem ent_ok {q : Str × Str} (h : isPlat q.1 = true ∧ isAddr q.2 = true) : Asc (ent q) ∧ (ent q).length ≤ 27 ∧ 10 ∉ TL.tl (ent q) := by
  have p := plat_no h.1
  have a := addr_no h.2
  refine ⟨fun c hc => ?_, ?_, fun m => ?_⟩
  · rw [ent_tl] at hc
    rcases List.mem_append.mp hc with z | z
    · exact Asc.of_plat h.1 c z
    · rcases List.mem_cons.mp z with z | z
      · rw [z]; decide
      · exact Asc.of_addr h.2 c z
  · rw [TL.len_tl, ent_tl, List.length_append, List.length_cons, ← TL.len_tl, ← TL.len_tl]
    omega
  · rw [ent_tl] at m
    rcases List.mem_append.mp m with z | z
    · exact p.2.1 z
    · rcases List.mem_cons.mp z with z | z
      · cases z
      · exact a.2.1 z
theorem textOf_asc {ls : List Str} (h : ∀ l ∈ ls, Asc l) : Asc (textOf ls) := fun c hc => by
  rw [textOf_tl] at hc
  obtain ⟨p, hp, hcp⟩ := List.mem_flatten.mp hc
  obtain ⟨r, hr, rfl⟩ := List.mem_map.mp hp
  obtain ⟨l, hl, rfl⟩ := List.mem_map.mp hr
  rcases List.mem_append.mp hcp with z | z
  · exact h l hl c z
  · rw [List.mem_singleton.mp z]; decide

/-! ### blobs -/
abbrev Blb := Str × Str
abbrev Blbs := List (Str × Blb)
def lk : Blbs → Str → Option Blb
  | [], _ => none
  | (b, x) :: r, a => if b = a then some x else lk r a
def setB (B : Blbs) (a : Str) (x : Blb) : Blbs := if a ∈ B.map (·.1) then B.map (fun e => if e.1 = a then (e.1, x) else e) else B ++ [(a, x)]
def dropB (B : Blbs) (a : Str) : Blbs := B.filter fun e => decide (e.1 ≠ a)
theorem lk_mem {B : Blbs} {a : Str} {x : Blb} (h : lk B a = some x) : (a, x) ∈ B := by
  induction B with
  | nil => cases h
  | cons e r ih =>
    obtain ⟨b, y⟩ := e
    unfold lk at h
    by_cases hb : b = a
    · rw [if_pos hb] at h
      cases h
      rw [hb]; exact List.mem_cons_self
    · rw [if_neg hb] at h
      exact List.mem_cons_of_mem _ (ih h)
theorem lk_none {B : Blbs} {a : Str} : lk B a = none ↔ a ∉ B.map (·.1) := by
  induction B with
  | nil => simp [lk]
  | cons e r ih =>
    obtain ⟨b, y⟩ := e
    unfold lk
    by_cases hb : b = a
    · rw [if_pos hb]; simp [hb]
    · rw [if_neg hb, ih, List.map_cons, List.mem_cons, not_or]
      exact ⟨fun h => ⟨fun z => hb z.symm, h⟩, fun h => h.2⟩
/-- the dict at d holds B -/
def EntAt (H : Hp) (kv : Key × V) (e : Str × Blb) : Prop := kv.1 = .inr e.1 ∧ ∃ t, kv.2 = .ref t ∧ H t = some (.tup [.str e.2.1, .str e.2.2])
def DB (H : Hp) (d : Addr) (B : Blbs) : Prop := ∃ kvs, H d = some (.dK kvs) ∧ Paired (EntAt H) kvs B
theorem prd_len {α β : Type} {R : α → β → Prop} {l : List α} {m : List β} (h : Paired R l m) : l.length = m.length := by
  induction h with
  | nil => rfl
  | cons _ _ ih => simp [ih]
theorem prd_imp {α β : Type} {R S : α → β → Prop} (k : ∀ a b, R a b → S a b) {l : List α} {m : List β} (h : Paired R l m) : Paired S l m := by
  induction h with
  | nil => exact .nil
  | cons r _ ih => exact .cons (k _ _ r) ih
theorem EntAt.keep {H H' : Hp} {kv : Key × V} {e : Str × Blb} (h : EntAt H kv e) (k : ∀ t xs, H t = some (.tup xs) → H' t = some (.tup xs)) : EntAt H' kv e := ⟨h.1, let ⟨t, e1, e2⟩ := h.2; ⟨t, e1, k t _ e2⟩⟩
theorem DB.keep {H H' : Hp} {d : Addr} {B : Blbs} (h : DB H d B) (kd : ∀ kvs, H d = some (.dK kvs) → H' d = some (.dK kvs)) (k : ∀ t xs, H t = some (.tup xs) → H' t = some (.tup xs)) : DB H' d B := by
  obtain ⟨kvs, e, p⟩ := h
  exact ⟨kvs, kd _ e, prd_imp (fun _ _ r => r.keep k) p⟩
theorem DB.gr {H H' : Hp} {d : Addr} {B : Blbs} (h : DB H d B) (g : Gr H H') : DB H' d B := h.keep (fun _ e => g.keep d _ e (fun ps z => nomatch z)) fun _ _ e => g.tup e
theorem DB.same {H H' : Hp} {d : Addr} {B : Blbs} (h : DB H d B) (s : Same H H') : DB H' d B := h.gr (.of_same s)
theorem sl_tup {H : Hp} {a c l : Addr} {xs : List V} (s : SL H a c) (h : H l = some (.tup xs)) : l ≠ a ∧ l ≠ c := by
  obtain ⟨n, cs, h1, h2, _, h3, _⟩ := s
  exact ⟨ne_of h h1 (by intro z; cases z), ne_of h h2 (by intro z; cases z)⟩
theorem sl_dk {H : Hp} {a c l : Addr} {kvs : List (Key × V)} (s : SL H a c) (h : H l = some (.dK kvs)) : l ≠ a ∧ l ≠ c := by
  obtain ⟨n, cs, h1, h2, _, h3, _⟩ := s
  exact ⟨ne_of h h1 (by intro z; cases z), ne_of h h2 (by intro z; cases z)⟩
theorem sl_ins {H : Hp} {a c l C dx : Addr} {fs : List (Str × V)} (s : SL H a c) (h : H l = some (.ins C dx fs)) : l ≠ a ∧ l ≠ c := by
  obtain ⟨n, cs, h1, h2, _, h3, _⟩ := s
  exact ⟨ne_of h h1 (by intro z; cases z), ne_of h h2 (by intro z; cases z)⟩
theorem DB.mv {H H' : Hp} {d a c : Addr} {B : Blbs} (h : DB H d B) (s : SL H a c) (m : Mv a c H H') : DB H' d B :=
  h.keep (fun _ e => m.keep d _ (sl_dk s e).1 (sl_dk s e).2 e) fun t _ e => m.keep t _ (sl_tup s e).1 (sl_tup s e).2 e
theorem DB.val {H : Hp} {B : Blbs} {kvs : List (Key × V)} (p : Paired (EntAt H) kvs B) (a : Str) : (lk B a = none ∧ valV kvs (.inr a) = none) ∨ ∃ x t, lk B a = some x ∧ valV kvs (.inr a) = some (.ref t) ∧ H t = some (.tup [.str x.1, .str x.2]) := by
  induction p with
  | nil => exact .inl ⟨rfl, rfl⟩
  | @cons kv e r m h _ ih =>
    obtain ⟨b, x⟩ := e
    obtain ⟨h1, t, h2, h3⟩ := h
    by_cases hb : b = a
    · refine .inr ⟨x, t, ?_, ?_, h3⟩
      · unfold lk; rw [if_pos hb]
      · rw [valV_pos (by rw [h1, hb]), h2]
    · have n1 : ¬ kv.1 = (.inr a : Key) := fun z => hb (by rw [h1] at z; injection z)
      unfold lk
      rw [if_neg hb, valV_neg n1]
      exact ih
theorem keyB_any {H : Hp} {B : Blbs} {kvs : List (Key × V)} (p : Paired (EntAt H) kvs B) (a : Str) : (kvs.any fun kv => decide (kv.1 = (.inr a : Key))) = decide (a ∈ B.map (·.1)) := by
  induction p with
  | nil => rfl
  | @cons kv e r m h _ ih =>
    rw [List.any_cons, ih, h.1, List.map_cons, Bool.eq_iff_iff, Bool.or_eq_true, decide_eq_true_eq, decide_eq_true_eq, decide_eq_true_eq, List.mem_cons]
    exact ⟨fun z => z.elim (fun z => .inl (by injection z with z; exact z.symm)) .inr, fun z => z.elim (fun z => .inl (by rw [z])) .inr⟩
theorem prd_app {α β : Type} {R : α → β → Prop} {l l' : List α} {m m' : List β} (h : Paired R l m) (h' : Paired R l' m') : Paired R (l ++ l') (m ++ m') := by
  induction h with
  | nil => exact h'
  | cons r _ ih => exact .cons r ih
/-- a blob put -/
theorem put_prd {H H' : Hp} {B : Blbs} {kvs : List (Key × V)} {a : Str} {x : Blb} {t : Addr} (p : Paired (EntAt H) kvs B) (k : ∀ t xs, H t = some (.tup xs) → H' t = some (.tup xs)) (ht : H' t = some (.tup [.str x.1, .str x.2])) : Paired (EntAt H') (putK kvs (.inr a) (.ref t)) (setB B a x) := by
  have p' := prd_imp (fun _ _ r => EntAt.keep r k) p
  unfold putK setB
  rw [keyB_any p a]
  by_cases h : a ∈ B.map (·.1)
  · rw [if_pos (decide_eq_true h), if_pos h]
    clear h p
    induction p' with
    | nil => exact .nil
    | @cons kv e r m h _ ih =>
      refine .cons ?_ ih
      dsimp only
      by_cases hb : e.1 = a
      · rw [if_pos (by rw [h.1, hb]), if_pos hb]
        exact ⟨h.1, t, rfl, ht⟩
      · rw [if_neg (fun z => hb (by rw [h.1] at z; injection z)), if_neg hb]
        exact h
  · rw [if_neg (by rw [decide_eq_false h]; exact Bool.false_ne_true), if_neg h]
    exact prd_app p' (.cons ⟨rfl, t, rfl, ht⟩ .nil)
theorem drop_prd {H : Hp} {B : Blbs} {kvs : List (Key × V)} {a : Str} (p : Paired (EntAt H) kvs B) : Paired (EntAt H) (dropK kvs (.inr a)) (dropB B a) := by
  unfold dropK dropB
  induction p with
  | nil => exact .nil
  | @cons kv e r m h _ ih =>
    by_cases hb : e.1 = a
    · rw [List.filter_cons_of_neg (by rw [h.1, hb]; simp), List.filter_cons_of_neg (by simp [hb])]
      exact ih
    · skip
      have c1 : (decide (kv.1 ≠ (Sum.inr a : Key))) = true := by rw [h.1]; exact decide_eq_true fun z => hb (by injection z)
      have c2 : (decide (e.1 ≠ a)) = true := decide_eq_true hb
      rw [List.filter_cons, List.filter_cons, if_pos c1, if_pos c2]
      exact .cons h ih
theorem drop_none {B : Blbs} {a : Str} (h : lk B a = none) : dropB B a = B := by
  unfold dropB
  rw [List.filter_eq_self]
  intro e he
  exact decide_eq_true fun z => lk_none.mp h (List.mem_map.mpr ⟨e, he, z⟩)
theorem keysB {H : Hp} {B : Blbs} {kvs : List (Key × V)} (p : Paired (EntAt H) kvs B) : kvs.map (·.1) = (B.map (·.1)).map Sum.inr := by
  induction p with
  | nil => rfl
  | cons h _ ih => rw [List.map_cons, ih, h.1]; rfl
theorem set_keys {B : Blbs} {a : Str} {x : Blb} : (setB B a x).map (·.1) = if a ∈ B.map (·.1) then B.map (·.1) else B.map (·.1) ++ [a] := by
  unfold setB
  by_cases h : a ∈ B.map (·.1)
  · rw [if_pos h, if_pos h, List.map_map]
    apply List.map_congr_left
    intro e _
    show (if e.1 = a then (e.1, x) else e).1 = e.1
    split <;> rfl
  · rw [if_neg h, if_neg h, List.map_append]; rfl
theorem set_len (B : Blbs) (a : Str) (x : Blb) : (setB B a x).length ≤ B.length + 1 := by
  unfold setB
  split
  · rw [List.length_map]; omega
  · rw [List.length_append]; exact Nat.le_refl _
theorem set_mem {B : Blbs} {a : Str} {x : Blb} {e : Str × Blb} (h : e ∈ setB B a x) : e ∈ B ∨ e = (a, x) := by
  unfold setB at h
  split at h
  · obtain ⟨e0, h0, rfl⟩ := List.mem_map.mp h
    by_cases hb : e0.1 = a
    · rw [if_pos hb]; right; rw [hb]
    · rw [if_neg hb]; exact .inl h0
  · rcases List.mem_append.mp h with h | h
    · exact .inl h
    · exact .inr (List.mem_singleton.mp h)
/-! ### what is below a blob -/
def refsOf (x : Blb) : List Str := if x.1 = "image" then mid (lns x.2) else if x.1 = "bundle" then (mid (lns x.2)).map adr else []
/-- a blob as the law makes them -/
def Good (x : Blb) : Prop := x.2.length ≤ 5000 ∧ Asc x.2 ∧ (x.1 = "layer" ∨ (x.1 = "image" ∧ faultN false (lns x.2) = none) ∨ (x.1 = "bundle" ∧ faultN true (lns x.2) = none))
def due (k : Str) : Str := if k = "image" then "layer" else if k = "bundle" then "image" else ""
def rk (k : Str) : Nat := if k = "image" then 1 else if k = "bundle" then 2 else 0
theorem fault_ok {b : Bool} {ls : List Str} (h : faultN b ls = none) : ls.length ≤ 52 ∧ ∀ i, i < (mid ls).length → bad b (mid ls) i = false := by
  unfold faultN at h
  cases e : behN (word b) ls with
  | some k => rw [e] at h; cases h
  | none =>
    rw [e] at h
    refine ⟨?_, fun i hi => ?_⟩
    · unfold behN at e
      split at e
      · cases e
      · split at e
        · cases e
        · split at e
          · cases e
          · omega
    · dsimp only at h
      split at h
      · cases h
      · rw [Option.map_eq_none_iff, List.find?_eq_none] at h
        have := h i (List.mem_range.mpr (by rw [← mid_len]; exact hi))
        exact eq_false_of_ne_true this
theorem refs_addr {x : Blb} (g : Good x) : (∀ r ∈ refsOf x, isAddr r = true) ∧ (refsOf x).length ≤ 50 := by
  have getD {l : List Str} {r : Str} (h : r ∈ l) : ∃ i, i < l.length ∧ l.getD i "" = r := by
    obtain ⟨i, hi, e⟩ := List.getElem_of_mem h
    exact ⟨i, hi, by rw [List.getD_eq_getElem?_getD, List.getElem?_eq_getElem hi]; exact e⟩
  rcases g.2.2 with e | ⟨e, f⟩ | ⟨e, f⟩
  · have : refsOf x = [] := by
      unfold refsOf
      rw [e, if_neg (by decide), if_neg (by decide)]
    rw [this]
    exact ⟨(fun r h => by cases h), by decide⟩
  · have : refsOf x = mid (lns x.2) := by
      unfold refsOf
      rw [e, if_pos rfl]
    rw [this]
    obtain ⟨h1, h2⟩ := fault_ok f
    refine ⟨fun r hr => ?_, by rw [mid_len]; omega⟩
    obtain ⟨i, hi, er⟩ := getD hr
    have := h2 i hi
    unfold bad at this
    rw [if_neg Bool.false_ne_true, er] at this
    simpa using this
  · have : refsOf x = (mid (lns x.2)).map adr := by
      unfold refsOf
      rw [e, if_neg (by decide), if_pos rfl]
    rw [this]
    obtain ⟨h1, h2⟩ := fault_ok f
    refine ⟨fun r hr => ?_, by rw [List.length_map, mid_len]; omega⟩
    obtain ⟨l, hl, rfl⟩ := List.mem_map.mp hr
    obtain ⟨i, hi, er⟩ := getD hl
    have := h2 i hi
    unfold bad at this
    rw [if_pos rfl, er, Bool.or_eq_false_iff] at this
    simpa using this.2
/-! ### whole -/
def wholeN : Nat → Blbs → Str → Bool
  | 0, _, _ => false
  | n + 1, B, a => match lk B a with
    | none => false
    | some x => (refsOf x).all fun r => match lk B r with
      | none => false
      | some y => decide (y.1 = due x.1) && wholeN n B r
theorem wholeN_none {n : Nat} {B : Blbs} {a : Str} (h : lk B a = none) : wholeN (n + 1) B a = false := by
  unfold wholeN; rw [h]
theorem wholeN_some {n : Nat} {B : Blbs} {a : Str} {x : Blb} (h : lk B a = some x) : wholeN (n + 1) B a = (refsOf x).all fun r => match lk B r with
      | none => false
      | some y => decide (y.1 = due x.1) && wholeN n B r := by
  conv => lhs; unfold wholeN
  rw [h]
theorem refs_layer {x : Blb} (h : rk x.1 = 0) : refsOf x = [] := by
  unfold rk at h
  unfold refsOf
  split at h
  · cases h
  · split at h
    · cases h
    · rename_i h1 h2
      rw [if_neg h1, if_neg h2]
/-! ### what is gathered -/
def gat : Nat → Blbs → Str → List Str → List Str
  | 0, _, _, F => F
  | n + 1, B, a, F => if a ∈ F then F else match lk B a with
    | none => F
    | some x => (refsOf x).foldl (fun F r => gat n B r F) (F ++ [a])
def clo : Nat → Blbs → Str → List Str
  | 0, _, _ => []
  | n + 1, B, a => match lk B a with
    | none => [a]
    | some x => (refsOf x).foldl (fun F r => F ++ (clo n B r).filter fun y => decide (y ∉ F)) [a]
def cap : Nat → Nat
  | 0 => 0
  | n + 1 => 1 + 50 * cap n
end LW
namespace LW
open PySem PySem.Spec PyProof.Rows L2 GxR
/-- a store at o whose dict is d -/
def StO (C : Addr) (H : Hp) (o d : Addr) : Prop := ∃ dx, H o = some (.ins C dx [("_blobs", .ref d)])
theorem look_b (d : Addr) : ([(("_blobs" : Str), V.ref d)] : List (Str × V)).lookup ("_blobs" : Str) = some (V.ref d) := rfl
theorem StO.gr {C : Addr} {H H' : Hp} {o d : Addr} (s : StO C H o d) (g : Gr H H') : StO C H' o d := let ⟨dx, e⟩ := s; ⟨dx, g.keep o _ e (fun ps z => nomatch z)⟩
/-- a store that holds B -/
structure Sto (C : Addr) (H : Hp) (o d : Addr) (B : Blbs) : Prop where
  ob : StO C H o d
  db : DB H d B
theorem Sto.gr {C : Addr} {H H' : Hp} {o d : Addr} {B : Blbs} (s : Sto C H o d B) (g : Gr H H') : Sto C H' o d B := ⟨s.ob.gr g, s.db.gr g⟩
theorem Sto.mv {C : Addr} {H H' : Hp} {o d a c : Addr} {B : Blbs} (s : Sto C H o d B) (l : SL H a c) (m : Mv a c H H') : Sto C H' o d B :=
  ⟨let ⟨dx, e⟩ := s.ob; ⟨dx, m.keep o _ (sl_ins l e).1 (sl_ins l e).2 e⟩, s.db.mv l m⟩
abbrev cStore : Stmt := topS 27
abbrev s_Store___init : Stmt := inClass (topS 27) 0
abbrev N_Store___init : List Str := ["self"]
abbrev P_Store___init : List Str := ["self"]
theorem sc_Store___init : FnScope N_Store___init P_Store___init (defScope s_Store___init) := ⟨rfl, rfl, rfl, by decide +kernel, rfl, by decide +kernel, by decide +kernel⟩
def sp_Store___init (C : Addr) : Sp := fun vs H Q _ => ∃ (o dx : Addr), vs = [.ref o] ∧ H o = some (.ins C dx []) ∧ ∀ d, H d = none → Q .non (L2.upd (L2.upd H d (.dK [])) o (.ins C dx [("_blobs", .ref d)]))
abbrev s_Store_keep : Stmt := inClass (topS 27) 1
abbrev N_Store_keep : List Str := ["self", "kind", "text", "address"]
abbrev P_Store_keep : List Str := ["self", "kind", "text"]
theorem sc_Store_keep : FnScope N_Store_keep P_Store_keep (defScope s_Store_keep) := ⟨rfl, rfl, rfl, by decide +kernel, rfl, by decide +kernel, by decide +kernel⟩
/-- the address of a text of the kind j -/
def adOf (j : Nat) (t : Str) : Str := hexS (addrNum j t.cps.toList)
def sp_Store_keep (C : Addr) : Sp := fun vs H Q _ => ∃ (o d : Addr) (B : Blbs) (k t : Str) (j : Nat), vs = [.ref o, .str k, .str t] ∧ Sto C H o d B ∧ B.length < 1000 ∧ kinds[j]? = some k ∧ j < 3 ∧
  ∀ H', Sto C H' o d (setB B (adOf j t) (k, t)) → Kp (fun b => b = d) H H' → Q (.str (adOf j t)) H'
abbrev s_Store_blob : Stmt := inClass (topS 27) 2
abbrev N_Store_blob : List Str := ["self", "address"]
abbrev P_Store_blob : List Str := ["self", "address"]
theorem sc_Store_blob : FnScope N_Store_blob P_Store_blob (defScope s_Store_blob) := ⟨rfl, rfl, rfl, by decide +kernel, rfl, by decide +kernel, by decide +kernel⟩
/-- what a dict of blobs gives for an address -/
def Got (H : Hp) (B : Blbs) (a : Str) (v : V) : Prop := (lk B a = none ∧ v = .non) ∨ ∃ x t, lk B a = some x ∧ v = .ref t ∧ H t = some (.tup [.str x.1, .str x.2])
def sp_Store_blob (C : Addr) : Sp := fun vs H Q _ => ∃ (o d : Addr) (B : Blbs) (a : Str), vs = [.ref o, .str a] ∧ Sto C H o d B ∧ ∀ v, Got H B a v → Q v H
abbrev s_Store_remove_blob : Stmt := inClass (topS 27) 3
abbrev N_Store_remove_blob : List Str := ["self", "address"]
abbrev P_Store_remove_blob : List Str := ["self", "address"]
theorem sc_Store_remove_blob : FnScope N_Store_remove_blob P_Store_remove_blob (defScope s_Store_remove_blob) := ⟨rfl, rfl, rfl, by decide +kernel, rfl, by decide +kernel, by decide +kernel⟩
def sp_Store_remove_blob (C : Addr) : Sp := fun vs H Q _ => ∃ (o d : Addr) (B : Blbs) (a : Str), vs = [.ref o, .str a] ∧ Sto C H o d B ∧ ∀ H', Sto C H' o d (dropB B a) → Kp (fun b => b = d) H H' → Q .non H'
abbrev s_Store_addresses : Stmt := inClass (topS 27) 4
abbrev N_Store_addresses : List Str := ["self"]
abbrev P_Store_addresses : List Str := ["self"]
theorem sc_Store_addresses : FnScope N_Store_addresses P_Store_addresses (defScope s_Store_addresses) := ⟨rfl, rfl, rfl, by decide +kernel, rfl, by decide +kernel, by decide +kernel⟩
def sp_Store_addresses (C : Addr) : Sp := fun vs H Q _ => ∃ (o d : Addr) (B : Blbs), vs = [.ref o] ∧ Sto C H o d B ∧ B.length < 64 ∧ ∀ (ys : List Str) p, ys.Perm (B.map (·.1)) → sortedS ys = true → H p = none → Q (.ref p) (L2.upd H p (.lst (ys.map V.str)))
abbrev s_Store_below : Stmt := inClass (topS 27) 5
abbrev N_Store_below : List Str := ["self", "address", "kind", "text"]
abbrev P_Store_below : List Str := ["self", "address"]
theorem sc_Store_below : FnScope N_Store_below P_Store_below (defScope s_Store_below) := ⟨rfl, rfl, rfl, by decide +kernel, rfl, by decide +kernel, by decide +kernel⟩
def sp_Store_below (C B1 B2 : Addr) : Sp := fun vs H Q _ => ∃ (o d : Addr) (B : Blbs) (a : Str) (x : Blb), vs = [.ref o, .str a] ∧ Sto C H o d B ∧ lk B a = some x ∧ Good x ∧ TabG H B1 ∧ TabG H B2 ∧
  ∀ p H', H p = none → Gr H H' → H' p = some (.lst ((refsOf x).map V.str)) → Q (.ref p) H'
theorem DB.get {H : Hp} {d : Addr} {B : Blbs} (h : DB H d B) {a : Str} {x : Blb} (e : lk B a = some x) : ∃ t, DGet H d (.str a) (some (.ref t)) ∧ H t = some (.tup [.str x.1, .str x.2]) := by
  obtain ⟨kvs, hd, p⟩ := h
  rcases DB.val p a with ⟨n, _⟩ | ⟨y, t, e1, e2, e3⟩
  · rw [e] at n; cases n
  · rw [e] at e1; cases e1
    exact ⟨t, by rw [← e2]; exact DGet.k (k := .inr a) hd, e3⟩
theorem DB.isIn {H : Hp} {d : Addr} {B : Blbs} (h : DB H d B) (a : Str) : ∃ o, DGet H d (.str a) o ∧ o.isSome = (lk B a).isSome := by
  obtain ⟨kvs, hd, p⟩ := h
  refine ⟨_, DGet.k (k := .inr a) hd, ?_⟩
  rcases DB.val p a with ⟨n, n'⟩ | ⟨y, t, e1, e2, e3⟩
  · rw [n, n']; rfl
  · rw [e1, e2]; rfl
theorem DB.got {H : Hp} {d : Addr} {B : Blbs} (h : DB H d B) (a : Str) : ∃ o, DGet H d (.str a) o ∧ Got H B a (o.getD .non) := by
  obtain ⟨kvs, hd, p⟩ := h
  refine ⟨_, DGet.k (k := .inr a) hd, ?_⟩
  rcases DB.val p a with ⟨n, n'⟩ | ⟨y, t, e1, e2, e3⟩
  · rw [n']; exact .inl ⟨n, rfl⟩
  · rw [e2]; exact .inr ⟨y, t, e1, rfl, e3⟩
theorem DB.isD {H : Hp} {d : Addr} {B : Blbs} (h : DB H d B) : IsD H d := by
  obtain ⟨kvs, hd, p⟩ := h
  exact .inl ⟨_, .inl hd⟩
section
variable {P : Program} {w : World} {K : PySem.W.Frag} {mg : Str → Option Value} {base : Heap} {cM cR cU B1 B2 : Addr}
theorem ok_Store___init {f : Addr} {fd : FuncData} (F : Fun K "__init__" "Store.__init__" s_Store___init f fd) (T : Tx K mg cM cR cU) : FnOk P w K mg base CX0 1 f fd P_Store___init (sp_Store___init cU) := by
  refine F.ok sc_Store___init (fun vs H Q E h => ?_) (fun cdv A outer s H vs Q E hr h => ?_)
  · obtain ⟨_, _, rfl, _⟩ := h
    rfl
  · obtain ⟨o, dx, rfl, ho, q⟩ := h
    have nd := sc_Store___init.nd
    refine ⟨_, pss_one (ps_fld (pv 0) pe_dnewK rfl), ?_⟩
    refine fun d nd => ⟨_, rfl, o, cU, dx, [], rfl, ?_, T.sC, T.nB, by decide, q d nd⟩
    rw [upd_ne (ne_of_none ho nd)]; exact ho
theorem ok_Store_keep {f : Addr} {fd : FuncData} (F : Fun K "keep" "Store.keep" s_Store_keep f fd) (T : Tx K mg cM cR cU)
    (C_address_of : Cal P w K mg base CX0 1 "address_of" P_address_of spAddr) : FnOk P w K mg base CX0 2 f fd P_Store_keep (sp_Store_keep cU) := by
  refine F.ok sc_Store_keep (fun vs H Q E h => ?_) (fun cdv A outer s H vs Q E hr h => ?_)
  · obtain ⟨_, _, _, _, _, _, rfl, _⟩ := h
    rfl
  · obtain ⟨o, d, B, k, t, j, rfl, S, hl, hj, j3, q⟩ := h
    have nd := sc_Store_keep.nd
    have hu := hu_of hr
    refine ⟨_, pss_cons (ps_set (i := 3) nd rfl (Or.inl rfl) (pe_cal C_address_of hr (pa_cons (pv 1) (pa_cons (pv 2) pa_nil))))
  (pss_cons (ps_dput hu (pe_fld (pv 0) rfl) (pv 3) (pe_tup (pa_cons (pv 1) (pa_cons (pv 2) pa_nil))) rfl)
  (pss_one (ps_ret (pv 3)))), ?_⟩
    obtain ⟨dx, ho⟩ := S.ob
    obtain ⟨kvs, hd, pr⟩ := S.db
    have od : o ≠ d := ne_of ho hd (by intro z; cases z)
    refine ⟨_, rfl, _, rfl, k, t, j, rfl, hj, j3, _, rfl, _, rfl, (by show 2 ≤ sizeLine; decide), fun p np => ?_⟩
    have ho' : (L2.upd H p (.tup [.str k, .str t])) o = some (.ins cU dx [("_blobs", .ref d)]) := by rw [upd_ne (ne_of_none ho np)]; exact ho
    have hd' : (L2.upd H p (.tup [.str k, .str t])) d = some (.dK kvs) := by rw [upd_ne (ne_of_none hd np)]; exact hd
    have ln := prd_len pr
    refine ⟨_, rfl, o, cU, dx, _, _, rfl, ho', T.sC, T.nB, look_b _, _, rfl, d, _, rfl, DPut.k (k := .inr (adOf j t)) hd' ?_, ?_⟩
    · rw [ln, sizeLine_eq]; omega
    · refine ⟨_, rfl, q _ ⟨⟨dx, ?_⟩, _, upd_same, ?_⟩ (((Kp.refl _ H).new np).put rfl (by rw [hd']; exact fun z => by cases z))⟩
      · rw [upd_ne od]; exact ho'
      · have dp : p ≠ d := (ne_of_none hd np).symm
        refine put_prd pr (fun t0 xs e => ?_) ?_
        · rw [upd_ne (ne_of e hd (by intro z; cases z)), upd_ne (ne_of_none e np)]; exact e
        · rw [upd_ne dp, upd_same]
theorem ok_Store_blob {f : Addr} {fd : FuncData} (F : Fun K "blob" "Store.blob" s_Store_blob f fd) (T : Tx K mg cM cR cU) : FnOk P w K mg base CX0 1 f fd P_Store_blob (sp_Store_blob cU) := by
  refine F.ok sc_Store_blob (fun vs H Q E h => ?_) (fun cdv A outer s H vs Q E hr h => ?_)
  · obtain ⟨_, _, _, _, rfl, _⟩ := h
    rfl
  · obtain ⟨o, d, B, a, rfl, S, q⟩ := h
    have nd := sc_Store_blob.nd
    have hu := hu_of hr
    refine ⟨_, pss_one (ps_ret (pe_dget1 hu (pe_fld (pv 0) rfl) (pv 1) ⟨rfl, rfl, rfl, rfl⟩)), ?_⟩
    obtain ⟨dx, ho⟩ := S.ob
    obtain ⟨ov, g, gv⟩ := S.db.got a
    exact ⟨_, rfl, o, cU, dx, _, _, rfl, ho, T.sC, T.nB, look_b _, d, rfl, S.db.isD, _, rfl, ov, g, q _ gv⟩
theorem ok_Store_remove_blob {f : Addr} {fd : FuncData} (F : Fun K "remove_blob" "Store.remove_blob" s_Store_remove_blob f fd) (T : Tx K mg cM cR cU) : FnOk P w K mg base CX0 1 f fd P_Store_remove_blob (sp_Store_remove_blob cU) := by
  refine F.ok sc_Store_remove_blob (fun vs H Q E h => ?_) (fun cdv A outer s H vs Q E hr h => ?_)
  · obtain ⟨_, _, _, _, rfl, _⟩ := h
    rfl
  · obtain ⟨o, d, B, a, rfl, S, q⟩ := h
    have nd := sc_Store_remove_blob.nd
    have hu := hu_of hr
    refine ⟨_, pss_one (ps_expr (pe_dpop2 (pe_fld (pv 0) rfl) (pv 1) pe_non ⟨rfl, rfl, rfl, rfl⟩)), ?_⟩
    obtain ⟨dx, ho⟩ := S.ob
    obtain ⟨kvs, hd, pr⟩ := S.db
    have od : o ≠ d := ne_of ho hd (by intro z; cases z)
    refine ⟨_, rfl, o, cU, dx, _, _, rfl, ho, T.sC, T.nB, look_b _, d, rfl, S.db.isD, _, rfl, kvs, .inr a, hd, rfl, fun v hv => ?_, fun hn => ?_⟩
    · refine q _ ⟨⟨dx, by rw [upd_ne od]; exact ho⟩, _, upd_same, prd_imp (fun _ _ r => r.keep fun t xs e => ?_) (drop_prd pr)⟩ ((Kp.refl _ H).put rfl (by rw [hd]; exact fun z => by cases z))
      rw [upd_ne (ne_of e hd (by intro z; cases z))]; exact e
    · have : lk B a = none := by
        rcases DB.val pr a with ⟨n, _⟩ | ⟨y, t, e1, e2, e3⟩
        · exact n
        · rw [hn] at e2; cases e2
      exact q H ⟨S.ob, by rw [drop_none this]; exact S.db⟩ (Kp.refl _ H)
theorem ok_Store_addresses {f : Addr} {fd : FuncData} (F : Fun K "addresses" "Store.addresses" s_Store_addresses f fd) (T : Tx K mg cM cR cU) : FnOk P w K mg base CX0 1 f fd P_Store_addresses (sp_Store_addresses cU) := by
  refine F.ok sc_Store_addresses (fun vs H Q E h => ?_) (fun cdv A outer s H vs Q E hr h => ?_)
  · obtain ⟨_, _, _, rfl, _⟩ := h
    rfl
  · obtain ⟨o, d, B, rfl, S, hl, q⟩ := h
    have nd := sc_Store_addresses.nd
    refine ⟨_, pss_one (ps_ret (pe_callB (call_sortedD rfl) (by rfl) T.sor (by decide +kernel) (pa_cons (pe_fld (pv 0) rfl) pa_nil))), ?_⟩
    obtain ⟨dx, ho⟩ := S.ob
    obtain ⟨kvs, hd, pr⟩ := S.db
    exact ⟨_, rfl, o, cU, dx, _, _, rfl, ho, T.sC, T.nB, look_b _, d, kvs, B.map (·.1), rfl, .inl hd, keysB pr, (by rw [List.length_map]; exact hl), q⟩
theorem ok_Store_below {f : Addr} {fd : FuncData} (F : Fun K "below" "Store.below" s_Store_below f fd) (T : Tx K mg cM cR cU)
    (C_references : Cal P w K mg base CX0 5 "references" P_references (spRefs B1 B2)) : FnOk P w K mg base CX0 6 f fd P_Store_below (sp_Store_below cU B1 B2) := by
  refine F.ok sc_Store_below (fun vs H Q E h => ?_) (fun cdv A outer s H vs Q E hr h => ?_)
  · obtain ⟨_, _, _, _, _, rfl, _⟩ := h
    rfl
  · obtain ⟨o, d, B, a, x, rfl, S, hx, hg, t1, t2, q⟩ := h
    have nd := sc_Store_below.nd
    have hu := hu_of hr
    refine ⟨_, pss_cons (ps_asg (pe_dget hu (pe_fld (pv 0) rfl) (pv 1) (fun _ _ => rfl)) (pg_tup rfl (pgs_cons (pg_name (i := 2) nd rfl (Or.inl rfl)) (pgs_cons (pg_name (i := 3) nd rfl (Or.inl rfl)) pgs_nil))))
  (pss_one (ps_ret (pe_cal C_references hr (pa_cons (pv 2) (pa_cons (pv 3) pa_nil))))), ?_⟩
    obtain ⟨dx, ho⟩ := S.ob
    obtain ⟨t, g, ht⟩ := S.db.get hx
    refine ⟨_, rfl, o, cU, dx, _, _, rfl, ho, T.sC, T.nB, look_b _, _, rfl, d, _, rfl, g, t, [.str x.1, .str x.2], rfl, SqT.of ht, rfl, _, _, rfl, _, _, rfl, rfl, ?_⟩
    refine ⟨_, rfl, _, rfl, x.1, x.2, refsOf x, rfl, hg.1, t1, t2, ?_, q⟩
    unfold refsOf
    rcases hg.2.2 with e | ⟨e, f⟩ | ⟨e, f⟩
    · rw [e]
      exact .inr (.inr ⟨by decide, by decide, by rw [if_neg (by decide), if_neg (by decide)]⟩)
    · exact .inl ⟨e, f, by rw [if_pos e]⟩
    · exact .inr (.inl ⟨e, f, by rw [e, if_neg (by decide), if_pos rfl]⟩)
end
end LW
namespace LW
open PySem PySem.Spec PyProof.Rows L2 GxR
abbrev s_Store_is_whole : Stmt := inClass (topS 27) 6
abbrev N_Store_is_whole : List Str := ["self", "address", "kind", "reference"]
abbrev P_Store_is_whole : List Str := ["self", "address"]
theorem sc_Store_is_whole : FnScope N_Store_is_whole P_Store_is_whole (defScope s_Store_is_whole) := ⟨rfl, rfl, rfl, by decide +kernel, rfl, by decide +kernel, by decide +kernel⟩
abbrev s_Store__is_whole_of : Stmt := inClass (topS 27) 7
abbrev N_Store__is_whole_of : List Str := ["self", "kind", "address"]
abbrev P_Store__is_whole_of : List Str := ["self", "kind", "address"]
theorem sc_Store__is_whole_of : FnScope N_Store__is_whole_of P_Store__is_whole_of (defScope s_Store__is_whole_of) := ⟨rfl, rfl, rfl, by decide +kernel, rfl, by decide +kernel, by decide +kernel⟩
/-- what stands for the store's methods -/
structure At (C B1 B2 B3 : Addr) (H : Hp) (o d : Addr) (B : Blbs) : Prop where
  st : Sto C H o d B
  good : ∀ e ∈ B, Good e.2
  t1 : TabG H B1
  t2 : TabG H B2
  t3 : TabG H B3
theorem At.gr {C B1 B2 B3 : Addr} {H H' : Hp} {o d : Addr} {B : Blbs} (s : At C B1 B2 B3 H o d B) (g : Gr H H') : At C B1 B2 B3 H' o d B := ⟨s.st.gr g, s.good, g.tab _ s.t1, g.tab _ s.t2, g.tab _ s.t3⟩
theorem At.of {C B1 B2 B3 : Addr} {H : Hp} {o d : Addr} {B : Blbs} (s : At C B1 B2 B3 H o d B) {a : Str} {x : Blb} (h : lk B a = some x) : Good x := s.good _ (lk_mem h)
def iwo (r : Nat) (B : Blbs) (kd a : Str) : Bool := match lk B a with
  | none => false
  | some y => decide (y.1 = kd) && wholeN r B a
def sp_iwo (C B1 B2 B3 : Addr) (r : Nat) : Sp := fun vs H Q _ => ∃ (o d : Addr) (B : Blbs) (kd a : Str), vs = [.ref o, .str kd, .str a] ∧ At C B1 B2 B3 H o d B ∧ rk kd < r ∧ ∀ H', Gr H H' → Q (.bl (iwo r B kd a)) H'
def sp_isw (C B1 B2 B3 : Addr) (r : Nat) : Sp := fun vs H Q _ => ∃ (o d : Addr) (B : Blbs) (a : Str), vs = [.ref o, .str a] ∧ At C B1 B2 B3 H o d B ∧ (∀ x, lk B a = some x → rk x.1 ≤ r) ∧ ∀ H', Gr H H' → Q (.bl (wholeN (r + 1) B a)) H'
/-- the dict BELOW -/
def BelAt (K : PySem.W.Frag) (w : World) (mg : Str → Option Value) : Prop := ∃ bd, mg "BELOW" = some (.ref bd) ∧ KDct K w bd "image" (.str "layer") ∧ KDct K w bd "bundle" (.str "image")
theorem whole_iwo {r : Nat} {B : Blbs} {a : Str} {x : Blb} (h : lk B a = some x) : wholeN (r + 1) B a = (refsOf x).all fun z => iwo r B (due x.1) z := wholeN_some h
theorem rk_due {x : Blb} {r : Nat} (h : rk x.1 ≤ r) (n : refsOf x ≠ []) : rk (due x.1) < r := by
  unfold rk at h
  unfold refsOf at n
  unfold due
  by_cases h1 : x.1 = "image"
  · rw [if_pos h1] at h ⊢
    have : rk "layer" = 0 := by decide +kernel
    omega
  · rw [if_neg h1] at h ⊢ n
    by_cases h2 : x.1 = "bundle"
    · rw [if_pos h2] at h ⊢
      have : rk "image" = 1 := by decide +kernel
      omega
    · rw [if_neg h2] at n
      exact absurd rfl n
theorem due_bel {K : PySem.W.Frag} {w : World} {bd : Addr} {x : Blb} (b1 : KDct K w bd "image" (.str "layer")) (b2 : KDct K w bd "bundle" (.str "image")) (n : refsOf x ≠ []) : KDct K w bd x.1 (.str (due x.1)) := by
  unfold refsOf at n
  unfold due
  by_cases h1 : x.1 = "image"
  · rw [if_pos h1, h1]; exact b1
  · rw [if_neg h1] at n ⊢
    by_cases h2 : x.1 = "bundle"
    · rw [if_pos h2, h2]; exact b2
    · rw [if_neg h2] at n
      exact absurd rfl n
section
variable {P : Program} {w : World} {K : PySem.W.Frag} {mg : Str → Option Value} {base : Heap} {cM cR cU B1 B2 B3 : Addr}
theorem ok_Store__is_whole_of {f : Addr} {fd : FuncData} {r L : Nat} (F : Fun K "is_whole_of" "Store.is_whole_of" s_Store__is_whole_of f fd) (T : Tx K mg cM cR cU)
    (C_is_whole : CalM P w K mg base CX0 L cU "is_whole" P_Store_is_whole (sp_isw cU B1 B2 B3 r)) : FnOk P w K mg base CX0 (L + 1) f fd P_Store__is_whole_of (sp_iwo cU B1 B2 B3 (r + 1)) := by
  refine F.ok sc_Store__is_whole_of (fun vs H Q E h => ?_) (fun cdv A outer s H vs Q E hr h => ?_)
  · obtain ⟨_, _, _, _, _, rfl, _⟩ := h
    rfl
  · obtain ⟨o, d, B, kd, a, rfl, S, hk, q⟩ := h
    have nd := sc_Store__is_whole_of.nd
    have hu := hu_of hr
    refine ⟨_, pss_one (ps_ret (pe_and (pe_cmp (pc_din hu (pv 2) (pe_fld (pv 0) rfl))) (pe_and (pe_cmpR op_eq (pe_ix ix_tup (pe_dget hu (pe_fld (pv 0) rfl) (pv 2) (fun _ _ => rfl)) pe_int (fun _ _ => rfl)) (pv 1) (nomark _)) (pe_one (pe_calM (pv 0) C_is_whole hr (pa_cons (pv 2) pa_nil) (Nat.le_refl _)))))), ?_⟩
    obtain ⟨dx, ho⟩ := S.st.ob
    obtain ⟨ov, g, eg⟩ := S.st.db.isIn a
    refine ⟨_, rfl, _, rfl, o, cU, dx, _, _, rfl, ho, T.sC, T.nB, look_b _, d, ov, rfl, g, _, rfl, ?_⟩
    rw [eg]
    unfold iwo at q
    cases e : lk B a with
    | none =>
      rw [e] at q
      exact iteF (q H (Gr.refl H))
    | some y =>
      rw [e] at q
      obtain ⟨t, g2, ht⟩ := S.st.db.get e
      refine iteT ⟨_, rfl, o, cU, dx, _, _, rfl, ho, T.sC, T.nB, look_b _, _, rfl, d, _, rfl, g2, t, [.str y.1, .str y.2], 0, .str y.1, rfl, rfl, SqT.of ht, at2_0, _, rfl, rfl, _, rfl, ?_⟩
      rw [eq_str]
      by_cases h1 : y.1 = kd
      · refine ite2 (fun _ => ?_) (fun z => absurd (decide_eq_true h1) z)
        refine ⟨_, rfl, o, dx, _, rfl, ho, rfl, _, rfl, o, d, B, a, rfl, S, fun x hx => ?_, fun H' gr => ?_⟩
        · rw [e] at hx; cases hx
          rw [h1]; omega
        · have := q H' gr
          dsimp only at this
          rw [decide_eq_true h1, Bool.true_and] at this
          exact this
      · have := q H (Gr.refl H)
        dsimp only at this
        rw [decide_eq_false h1, Bool.false_and] at this
        exact ite2 (fun z => absurd (of_decide_eq_true z) h1) (fun _ => this)
theorem ok_Store_is_whole {f c : Addr} {fd : FuncData} {r L : Nat} (F : FunC K "is_whole" "Store.is_whole" s_Store_is_whole f fd c) (T : Tx K mg cM cR cU) (TB : TabB base mg c B3) (bel : BelAt K w mg)
    (C_below : CalM P w K mg base CX0 6 cU "below" P_Store_below (sp_Store_below cU B1 B2))
    (C_iwo : CalM P w K mg base CX0 L cU "is_whole_of" P_Store__is_whole_of (sp_iwo cU B1 B2 B3 r)) : FnOk P w K mg base CX0 (L + 7) f fd P_Store_is_whole (sp_isw cU B1 B2 B3 r) := by
  refine F.ok sc_Store_is_whole (fun vs H Q E h => ?_) (fun A outer s H vs Q E hr h => ?_)
  · obtain ⟨_, _, _, _, rfl, _⟩ := h
    rfl
  · obtain ⟨o, d, B, a, rfl, S, hk, q⟩ := h
    have nd := sc_Store_is_whole.nd
    have hu := hu_of hr
    obtain ⟨bd, aB, b1, b2⟩ := bel
    have hr2 : Room (L + 4 + 2) _ := hr
    refine ⟨_, pss_cons (ps_if (pt_cmp (pc_dnotin hu (pv 1) (pe_fld (pv 0) rfl)))
    (pss_one (ps_ret pe_bl))
    (pss_nil))
  (pss_cons (ps_set (i := 2) nd rfl (Or.inr rfl) (pe_ix ix_tup (pe_dget hu (pe_fld (pv 0) rfl) (pv 1) (fun _ _ => rfl)) pe_int (fun _ _ => rfl)))
  (pss_one (ps_ret (pe_allL (own := [("reference", 3)]) (g := gName 3) (k := L + 4) hr2 rfl nd (by rfl) T.all TB rfl (gblk_by (N := N_Store_is_whole) (sc := defScope s_Store_is_whole) (by decide +kernel)) (pi_list (pe_calM (pv 0) C_below hr (pa_cons (pv 1) pa_nil) (by omega)))
    (fun _ _ _ _ _ _ _ => pg_name (i := 3) nd rfl (Or.inl rfl))
    (fun _ _ _ _ _ _ _ hr' => pe_calM (pv 0) C_iwo hr' (pa_cons (pe_ix (show IxR _ (rIxD K w) from ix_kdict) (pe_glob (v := .ref bd) (by rfl) aB rfl) (pv 2) (fun _ _ => rfl)) (pa_cons (pv 3) pa_nil)) (by omega)))))), ?_⟩
    obtain ⟨dx, ho⟩ := S.st.ob
    obtain ⟨ov, g, eg⟩ := S.st.db.isIn a
    refine ⟨_, rfl, _, rfl, o, cU, dx, _, _, rfl, ho, T.sC, T.nB, look_b _, d, ov, rfl, g, ?_⟩
    rw [eg]
    cases e : lk B a with
    | none =>
      refine ⟨true, rfl, iteT ?_⟩
      have := q H (Gr.refl H)
      rw [wholeN_none e] at this
      exact this
    | some x =>
      refine ⟨false, rfl, iteF ?_⟩
      have hrk := hk x e
      have hg := S.of e
      obtain ⟨t, g2, ht⟩ := S.st.db.get e
      refine ⟨_, rfl, o, cU, dx, _, _, rfl, ho, T.sC, T.nB, look_b _, _, rfl, d, _, rfl, g2, t, [.str x.1, .str x.2], 0, .str x.1, rfl, rfl, SqT.of ht, at2_0, ?_⟩
      refine ⟨_, rfl, o, dx, _, rfl, ho, rfl, _, rfl, o, d, B, a, x, rfl, S.st, e, hg, S.t1, S.t2, fun p H1 np g1 hp => ?_⟩
      refine ⟨p, rfl, ⟨_, SqL.of hp⟩, g1.tab _ S.t3, fun H2 tb => ?_⟩
      have g12 : Gr H H2 := g1.trans (.of_tab (g1.tab _ S.t3) tb)
      have hw := whole_iwo (r := r) e
      refine wl_list (K := K) (a := p) (xs := (refsOf x).map V.str) (fun i H' => Gr H H' ∧ H' p = some (.lst ((refsOf x).map V.str)) ∧ ∀ z ∈ (refsOf x).take i, iwo r B (due x.1) z = true) ⟨g12, ?_, by simp⟩ (fun i H' _ h => SqL.of h.2.1) ?_ ?_
      · exact (Gr.of_tab (g1.tab _ S.t3) tb).lst hp
      · rintro i v H' hv ⟨g, hp', hall⟩
        rw [List.getElem?_map] at hv
        cases ez : (refsOf x)[i]? with
        | none => rw [ez] at hv; cases hv
        | some z =>
          rw [ez] at hv
          cases hv
          have hz : z ∈ refsOf x := List.mem_of_getElem? ez
          have ne : refsOf x ≠ [] := fun h => by rw [h] at hz; cases hz
          have S' := S.gr g
          obtain ⟨dx', ho'⟩ := S'.st.ob
          refine ⟨rfl, _, rfl, o, dx', _, rfl, ho', rfl, _, rfl, bd, x.1, .str (due x.1), rfl, rfl, due_bel b1 b2 ne, _, rfl, o, d, B, due x.1, z, rfl, S', rk_due hrk ne, fun H'' g'' => ⟨_, rfl, ite2 (fun h => ?_) (fun h => ?_)⟩⟩
          · refine ⟨g.trans g'', g''.lst hp', fun z' hz' => ?_⟩
            rw [List.take_add_one, ez] at hz'
            rcases List.mem_append.mp hz' with h1 | h1
            · exact hall z' h1
            · rw [List.mem_singleton.mp h1]; exact h
          · have := q H'' (g.trans g'')
            rw [hw, show ((refsOf x).all fun z => iwo r B (due x.1) z) = false from List.all_eq_false.mpr ⟨z, hz, h⟩] at this
            exact this
      · rintro H' ⟨g, hp', hall⟩
        have := q H' g
        rw [List.length_map, List.take_length] at hall
        rw [hw, show ((refsOf x).all fun z => iwo r B (due x.1) z) = true from List.all_eq_true.mpr hall] at this
        exact this
end
end LW
namespace LW
open PySem PySem.Spec PyProof.Rows L2 GxR
def inn (ks : List Str) : List (Key × V) := ks.map fun x => (Sum.inr x, V.bl true)
/-- a key put into an inner dict -/
def kadd (ks : List Str) (x : Str) : List Str := if x ∈ ks then ks else ks ++ [x]
theorem inn_put (ks : List Str) (x : Str) : putK (inn ks) (.inr x) (.bl true) = inn (kadd ks x) := by
  have any : ((inn ks).any fun kv => decide (kv.1 = .inr x)) = decide (x ∈ ks) := by
    rw [Bool.eq_iff_iff, List.any_eq_true, decide_eq_true_eq]
    constructor
    · rintro ⟨kv, h, e⟩
      obtain ⟨y, hy, rfl⟩ := List.mem_map.mp h
      have e := of_decide_eq_true e
      have : y = x := by injection e
      rw [← this]; exact hy
    · intro h
      exact ⟨_, List.mem_map.mpr ⟨x, h, rfl⟩, decide_eq_true rfl⟩
  unfold putK kadd
  rw [any]
  by_cases h : x ∈ ks
  · rw [if_pos (decide_eq_true h), if_pos h, inn, List.map_map]
    apply List.map_congr_left
    intro y _
    show (if (Sum.inr y : Key) = Sum.inr x then ((Sum.inr y : Key), V.bl true) else (Sum.inr y, V.bl true)) = _
    split <;> rfl
  · rw [if_neg (by rw [decide_eq_false h]; exact Bool.false_ne_true), if_neg h, inn, inn, List.map_append]
    rfl

theorem inn_val (ks : List Str) (a : Str) : (valV (inn ks) (.inr a)).isSome = decide (a ∈ ks) := by
  rw [← valV_any, Bool.eq_iff_iff, List.any_eq_true, decide_eq_true_eq]
  constructor
  · rintro ⟨kv, h, e⟩
    obtain ⟨y, hy, rfl⟩ := List.mem_map.mp h
    have e := of_decide_eq_true e
    have : y = a := by injection e
    rw [← this]; exact hy
  · intro h
    exact ⟨_, List.mem_map.mpr ⟨a, h, rfl⟩, decide_eq_true rfl⟩
/-- all is kept but tables of code and what stands at f -/
structure GrF (f : Addr) (H H' : Hp) : Prop where
  keep : ∀ b o, b ≠ f → H b = some o → (∀ ps, o ≠ .tbl ps) → H' b = some o
  tab : ∀ b, b ≠ f → TabG H b → TabG H' b
  free : ∀ b, H' b = none → H b = none
theorem GrF.refl (f : Addr) (H : Hp) : GrF f H H := ⟨fun _ _ _ e _ => e, fun _ _ t => t, fun _ n => n⟩
theorem GrF.trans {f : Addr} {H H1 H2 : Hp} (g : GrF f H H1) (h : GrF f H1 H2) : GrF f H H2 := ⟨fun b o n e t => h.keep b o n (g.keep b o n e t) t, fun b n t => h.tab b n (g.tab b n t), fun b n => g.free b (h.free b n)⟩
theorem GrF.of {f : Addr} {H H' : Hp} (g : Gr H H') : GrF f H H' := ⟨fun b o _ e t => g.keep b o e t, fun b _ t => g.tab b t, g.free⟩
theorem GrF.put {f : Addr} {H : Hp} {o u : HO} (h : H f = some u) : GrF f H (L2.upd H f o) := ⟨fun b x n e _ => by rw [upd_ne n]; exact e, fun b n t => tab_eq t (upd_ne n), fun b n => by
  by_cases e : b = f
  · rw [e, upd_same] at n; cases n
  · rw [upd_ne e] at n; exact n⟩
theorem GrF.new {f : Addr} {H H' : Hp} {o : HO} (h : H f = none) (g : GrF f (L2.upd H f o) H') : Gr H H' := ⟨fun b x e t => g.keep b x (ne_of_none e h) (by rw [upd_ne (ne_of_none e h)]; exact e) t, fun b t => by
  have n : b ≠ f := by
    obtain ⟨ps, e, _⟩ := t
    exact ne_of_none e h
  exact g.tab b n (tab_eq t (upd_ne n)), fun b n => by
  have := g.free b n
  by_cases e : b = f
  · rw [e]; exact h
  · rw [upd_ne e] at this; exact this⟩
theorem At.grF {C B1 B2 B3 f : Addr} {H H' : Hp} {o d : Addr} {B : Blbs} {kvs : List (Key × V)} (s : At C B1 B2 B3 H o d B) (hf : H f = some (.dK kvs)) (n : d ≠ f) (g : GrF f H H') : At C B1 B2 B3 H' o d B := by
  have tb : ∀ {b}, TabG H b → TabG H' b := fun {b} t => g.tab b (by
    obtain ⟨ps, e, _⟩ := t
    exact ne_of e hf (by intro z; cases z)) t
  refine ⟨⟨?_, s.st.db.keep (fun kv e => g.keep d _ n e (fun ps z => nomatch z)) fun t xs e => g.keep t _ (ne_of e hf (by intro z; cases z)) e (fun ps z => nomatch z)⟩, s.good, tb s.t1, tb s.t2, tb s.t3⟩
  obtain ⟨dx, e⟩ := s.st.ob
  exact ⟨dx, g.keep o _ (ne_of e hf (by intro z; cases z)) e (fun ps z => nomatch z)⟩
theorem gat_len {B : Blbs} (g : ∀ e ∈ B, Good e.2) : ∀ (n : Nat) (a : Str) (F : List Str), (gat n B a F).length ≤ F.length + cap n := by
  intro n
  induction n with
  | zero => intro a F; exact Nat.le_refl _
  | succ n ih =>
    intro a F
    unfold gat
    split
    · omega
    · split
      · omega
      · rename_i x hx
        have hl := (refs_addr (g _ (lk_mem hx))).2
        have : ∀ (l : List Str) (F : List Str), (l.foldl (fun F r => gat n B r F) F).length ≤ F.length + l.length * cap n := by
          intro l
          induction l with
          | nil => intro F; simp
          | cons z r ih2 =>
            intro F
            rw [List.foldl_cons, List.length_cons, Nat.succ_mul]
            have h1 := ih2 (gat n B z F)
            have h2 := ih z F
            omega
        have h1 := this (refsOf x) (F ++ [a])
        rw [List.length_append, List.length_singleton] at h1
        have h2 : (refsOf x).length * cap n ≤ 50 * cap n := Nat.mul_le_mul_right _ hl
        show _ ≤ F.length + (1 + 50 * cap n)
        omega
abbrev s_Store__gather : Stmt := inClass (topS 27) 9
abbrev N_Store__gather : List Str := ["self", "address", "found", "reference"]
abbrev P_Store__gather : List Str := ["self", "address", "found"]
theorem sc_Store__gather : FnScope N_Store__gather P_Store__gather (defScope s_Store__gather) := ⟨rfl, rfl, rfl, by decide +kernel, rfl, by decide +kernel, by decide +kernel⟩
def sp_gather (C B1 B2 B3 : Addr) (r : Nat) : Sp := fun vs H Q _ => ∃ (o d f : Addr) (B : Blbs) (a : Str) (F : List Str), vs = [.ref o, .str a, .ref f] ∧ At C B1 B2 B3 H o d B ∧ H f = some (.dK (inn F)) ∧ d ≠ f ∧ (∀ x, lk B a = some x → rk x.1 < r) ∧ wholeN r B a = true ∧ F.length + cap r ≤ 100000 ∧
  ∀ H', GrF f H H' → H' f = some (.dK (inn (gat r B a F))) → Q .non H'
abbrev s_Store_closure : Stmt := inClass (topS 27) 8
abbrev N_Store_closure : List Str := ["self", "address", "found"]
abbrev P_Store_closure : List Str := ["self", "address"]
theorem sc_Store_closure : FnScope N_Store_closure P_Store_closure (defScope s_Store_closure) := ⟨rfl, rfl, rfl, by decide +kernel, rfl, by decide +kernel, by decide +kernel⟩
def sp_closure (C B1 B2 B3 : Addr) : Sp := fun vs H Q _ => ∃ (o d : Addr) (B : Blbs) (a : Str), vs = [.ref o, .str a] ∧ At C B1 B2 B3 H o d B ∧ wholeN 3 B a = true ∧ ∀ p H', H p = none → Gr H H' → H' p = some (.lst ((gat 3 B a []).map V.str)) → Q (.ref p) H'
theorem rk_lt (k : Str) : rk k < 3 := by
  unfold rk
  split
  · decide
  · split <;> decide
section
variable {P : Program} {w : World} {K : PySem.W.Frag} {mg : Str → Option Value} {base : Heap} {cM cR cU B1 B2 B3 : Addr}
theorem ok_Store__gather {f : Addr} {fd : FuncData} {r L : Nat} (F : Fun K "_gather" "Store._gather" s_Store__gather f fd) (T : Tx K mg cM cR cU)
    (C_below : CalM P w K mg base CX0 6 cU "below" P_Store_below (sp_Store_below cU B1 B2))
    (C_gather : CalM P w K mg base CX0 L cU "_gather" P_Store__gather (sp_gather cU B1 B2 B3 r)) : FnOk P w K mg base CX0 (L + 7) f fd P_Store__gather (sp_gather cU B1 B2 B3 (r + 1)) := by
  refine F.ok sc_Store__gather (fun vs H Q E h => ?_) (fun cdv A outer s H vs Q E hr h => ?_)
  · obtain ⟨_, _, _, _, _, _, rfl, _⟩ := h
    rfl
  · obtain ⟨o, d, f, B, a, F, rfl, S, hf, hdf, hk, hw, hl, q⟩ := h
    have nd := sc_Store__gather.nd
    have hu := hu_of hr
    refine ⟨_, pss_cons (ps_if (pt_cmp (pc_din hu (pv 1) (pv 2)))
    (pss_one (ps_retN))
    (pss_nil))
  (pss_cons (ps_dput hu (pv 2) (pv 1) pe_bl rfl)
  (pss_one (ps_for PassesOwn.never rfl (pi_list (pe_calM (pv 0) C_below hr (pa_cons (pv 1) pa_nil) (by omega))) (pg_name (i := 3) nd rfl (Or.inl rfl))
    (pss_one (ps_expr (pe_calM (pv 0) C_gather hr (pa_cons (pv 3) (pa_cons (pv 2) pa_nil)) (by omega))))))), ?_⟩
    refine ⟨_, rfl, _, rfl, f, _, rfl, DGet.k (k := .inr a) hf, ?_⟩
    rw [inn_val]
    cases ex : lk B a with
    | none => rw [wholeN_none ex] at hw; cases hw
    | some x =>
    have hg := S.of ex
    have hrk := hk x ex
    rw [whole_iwo ex] at hw
    have eg : gat (r + 1) B a F = if a ∈ F then F else (refsOf x).foldl (fun F r' => gat r B r' F) (F ++ [a]) := by
      conv => lhs; unfold gat
      rw [ex]
    by_cases ha : a ∈ F
    · refine ⟨_, rfl, ite2 (fun _ => ?_) (fun z => absurd (decide_eq_true ha) z)⟩
      refine q H (GrF.refl f H) ?_
      rw [eg, if_pos ha]; exact hf
    · refine ⟨_, rfl, ite2 (fun z => absurd (of_decide_eq_true z) ha) (fun _ => ?_)⟩
      rw [if_neg ha] at eg
      have ci : cap (r + 1) = 1 + 50 * cap r := rfl
      refine ⟨_, rfl, _, rfl, f, _, rfl, DPut.k (k := .inr a) hf (by rw [inn, List.length_map, sizeLine_eq]; omega), ?_⟩
      rw [inn_put]
      have ek : kadd F a = F ++ [a] := by unfold kadd; rw [if_neg ha]
      rw [ek]
      generalize eH1 : L2.upd H f (.dK (inn (F ++ [a]))) = H1
      have g1 : GrF f H H1 := by rw [← eH1]; exact GrF.put hf
      have hf1 : H1 f = some (.dK (inn (F ++ [a]))) := by rw [← eH1, upd_same]
      have S1 := S.grF hf hdf g1
      obtain ⟨dx, ho⟩ := S1.st.ob
      refine ⟨_, rfl, o, dx, _, rfl, ho, rfl, _, rfl, o, d, B, a, x, rfl, S1.st, ex, hg, S1.t1, S1.t2, fun p H2 np g2 hp => ?_⟩
      have hf2 : H2 f = some (.dK (inn (F ++ [a]))) := g2.keep f _ hf1 (fun ps z => nomatch z)
      have npf : p ≠ f := ne_of hp hf2 (by intro z; cases z)
      have g12 : GrF f H H2 := g1.trans (.of g2)
      have lcap : ∀ i, ((refsOf x).take i).foldl (fun F r' => gat r B r' F) (F ++ [a]) = ((refsOf x).take i).foldl (fun F r' => gat r B r' F) (F ++ [a]) := fun _ => rfl
      have flen : ∀ (l : List Str) (F : List Str), (l.foldl (fun F r' => gat r B r' F) F).length ≤ F.length + l.length * cap r := by
        intro l
        induction l with
        | nil => intro F; simp
        | cons z r' ih2 =>
          intro F
          rw [List.foldl_cons, List.length_cons, Nat.succ_mul]
          have h1 := ih2 (gat r B z F)
          have h2 := gat_len S.good r z F
          omega
      have hl50 := (refs_addr hg).2
      refine ⟨p, rfl, ⟨_, SqL.of hp⟩, ?_⟩
      refine for_it (walk_list (K := K) (a := p) (xs := (refsOf x).map V.str)) (fun i σ H' => GrF f H H' ∧ H' p = some (.lst ((refsOf x).map V.str)) ∧ H' f = some (.dK (inn (((refsOf x).take i).foldl (fun F r' => gat r B r' F) (F ++ [a])))) ∧ ∃ v, σ = [some (.ref o), some (.str a), some (.ref f), v])
        ⟨g12, hp, hf2, none, rfl⟩ (fun _ _ _ _ h => SqL.of h.2.1) ?_ ?_
      · rintro i v σ H3 H4 hi ⟨g, hp3, hf3, v0, rfl⟩ ⟨rfl, hv⟩
        rw [List.getElem?_map] at hv
        cases ez : (refsOf x)[i]? with
        | none => rw [ez] at hv; cases hv
        | some z =>
          rw [ez] at hv
          cases hv
          have hz : z ∈ refsOf x := List.mem_of_getElem? ez
          have hil : i < (refsOf x).length := (List.getElem?_eq_some_iff.mp ez).1
          have ne : refsOf x ≠ [] := fun h => by rw [h] at hz; cases hz
          have hwz := List.all_eq_true.mp hw z hz
          have S3 := S.grF hf hdf g
          obtain ⟨dx3, ho3⟩ := S3.st.ob
          unfold iwo at hwz
          cases ey : lk B z with
          | none => rw [ey] at hwz; cases hwz
          | some y =>
            rw [ey] at hwz
            dsimp only at hwz
            rw [Bool.and_eq_true, decide_eq_true_eq] at hwz
            have hrd := rk_due (r := r) (by omega) ne
            refine ⟨_, rfl, o, dx3, _, rfl, ho3, rfl, _, rfl, _, rfl, o, d, f, B, z, _, rfl, S3, hf3, hdf, fun y' hy' => ?_, hwz.2, ?_, fun H5 g5 hf5 => ?_⟩
            · rw [ey] at hy'; cases hy'
              rw [hwz.1]; exact hrd
            · have h1 := flen ((refsOf x).take i) (F ++ [a])
              rw [List.length_append, List.length_singleton, List.length_take] at h1
              have h2 : min i (refsOf x).length + 1 ≤ 50 := by omega
              have h3 : (min i (refsOf x).length + 1) * cap r ≤ 50 * cap r := Nat.mul_le_mul_right _ h2
              rw [Nat.succ_mul] at h3
              omega
            · refine ⟨g.trans g5, g5.keep p _ npf hp3 (fun ps z => nomatch z), ?_, _, rfl⟩
              rw [List.take_add_one, ez, List.foldl_append]
              exact hf5
      · rintro σ H3 ⟨g, hp3, hf3, v0, rfl⟩
        refine q H3 g ?_
        rw [eg]
        rw [List.length_map, List.take_length] at hf3
        exact hf3
theorem ok_Store_closure {f : Addr} {fd : FuncData} {L : Nat} (F : Fun K "closure" "Store.closure" s_Store_closure f fd) (T : Tx K mg cM cR cU)
    (C_gather : CalM P w K mg base CX0 L cU "_gather" P_Store__gather (sp_gather cU B1 B2 B3 3)) : FnOk P w K mg base CX0 (L + 1) f fd P_Store_closure (sp_closure cU B1 B2 B3) := by
  refine F.ok sc_Store_closure (fun vs H Q E h => ?_) (fun cdv A outer s H vs Q E hr h => ?_)
  · obtain ⟨_, _, _, _, rfl, _⟩ := h
    rfl
  · obtain ⟨o, d, B, a, rfl, S, hw, q⟩ := h
    have nd := sc_Store_closure.nd
    refine ⟨_, pss_cons (ps_set (i := 2) nd rfl (Or.inl rfl) pe_dnewK)
  (pss_cons (ps_expr (pe_calM (pv 0) C_gather hr (pa_cons (pv 1) (pa_cons (pv 2) pa_nil)) (Nat.le_refl _)))
  (pss_one (ps_ret (pe_callTy (call_listD rfl) (by rfl) T.list (by decide +kernel) (pa_cons (pv 2) pa_nil))))), ?_⟩
    refine fun f nf => ?_
    have g0 : Gr H (L2.upd H f (.dK [])) := (Gr.refl H).upd nf
    have S0 := S.gr g0
    obtain ⟨dx, ho⟩ := S0.st.ob
    have hdf : d ≠ f := by
      obtain ⟨kvs, e, _⟩ := S.st.db
      exact ne_of_none e nf
    refine ⟨_, rfl, o, dx, _, rfl, ho, rfl, _, rfl, _, rfl, o, d, f, B, a, [], rfl, S0, upd_same, hdf, fun x _ => rk_lt _, hw, by decide, fun H1 g1 hf1 => ?_⟩
    have g := GrF.new nf g1
    refine ⟨_, rfl, f, _, rfl, .inl hf1, fun p np => q p _ (g.free _ np) (g.upd np) ?_⟩
    rw [upd_same]
    congr 2
    rw [inn, List.map_map]
    rfl
end
end LW
namespace LW
open PySem PySem.Spec PyProof.Rows L2 GxR
theorem cut_mid {α : Type} (g : α → V) (ls : List α) (h : 2 ≤ ls.length) : cutV (ls.map g) (some 1) (some (-1)) = ((ls.drop 1).dropLast).map g := by
  unfold cutV
  rw [List.length_map]
  have e1 : HT.sIx ls.length 0 (some 1) = 1 := by
    have : HT.sIx ls.length 0 (some ((1 : Nat) : Int)) = min 1 ls.length := HT.sIx_nat ls.length 0 1
    rw [show (1 : Int) = ((1 : Nat) : Int) from rfl, this]; omega
  have e2 : HT.sIx ls.length ls.length (some (-1)) = ls.length - 1 := by
    show (if (-1 : Int) < 0 then (-1 + (ls.length : Int)).toNat else min (-1 : Int).toNat ls.length) = _
    rw [if_pos (by omega)]; omega
  rw [e1, e2, ← List.map_drop, ← List.map_take, List.dropLast_eq_take, List.length_drop]
theorem filter_range {α β : Type} (t : α → Bool) (g : α → β) (d : α) (l : List α) : ((List.range l.length).filter fun i => t (l.getD i d)).map (fun i => g (l.getD i d)) = (l.filter t).map g := by
  have h := range_map_get (fun x : α => x) d l
  rw [List.map_id'] at h
  conv => rhs; rw [← h, List.filter_map, List.map_map]
  rfl
abbrev s_law_refs : Stmt := topS 35
abbrev N_law_refs : List Str := ["blobs", "address", "kind", "text", "lines", "line"]
abbrev P_law_refs : List Str := ["blobs", "address"]
theorem sc_law_refs : FnScope N_law_refs P_law_refs (defScope s_law_refs) := ⟨rfl, rfl, rfl, by decide +kernel, rfl, by decide +kernel, by decide +kernel⟩
def sp_lr : Sp := fun vs H Q _ => ∃ (p : Addr) (B : Blbs) (a : Str) (x : Blb), vs = [.ref p, .str a] ∧ DB H p B ∧ lk B a = some x ∧ Good x ∧ ∀ q H', H q = none → Same H H' → H' q = some (.lst ((refsOf x).map V.str)) → Q (.ref q) H'
abbrev s_law_whole : Stmt := topS 36
abbrev N_law_whole : List Str := ["blobs", "address", "due", "other"]
abbrev P_law_whole : List Str := ["blobs", "address"]
theorem sc_law_whole : FnScope N_law_whole P_law_whole (defScope s_law_whole) := ⟨rfl, rfl, rfl, by decide +kernel, rfl, by decide +kernel, by decide +kernel⟩
def sp_lw (r : Nat) : Sp := fun vs H Q _ => ∃ (p : Addr) (B : Blbs) (a : Str), vs = [.ref p, .str a] ∧ DB H p B ∧ (∀ e ∈ B, Good e.2) ∧ 0 < r ∧ (∀ x, lk B a = some x → rk x.1 < r) ∧ ∀ H', Same H H' → Q (.bl (wholeN r B a)) H'
abbrev s_law_closure : Stmt := topS 37
abbrev N_law_closure : List Str := ["blobs", "address", "found", "other", "inner"]
abbrev P_law_closure : List Str := ["blobs", "address"]
theorem sc_law_closure : FnScope N_law_closure P_law_closure (defScope s_law_closure) := ⟨rfl, rfl, rfl, by decide +kernel, rfl, by decide +kernel, by decide +kernel⟩
def sp_lc (r : Nat) : Sp := fun vs H Q _ => ∃ (p : Addr) (B : Blbs) (a : Str), vs = [.ref p, .str a] ∧ DB H p B ∧ (∀ e ∈ B, Good e.2) ∧ (∀ x, lk B a = some x → rk x.1 < r) ∧ wholeN r B a = true ∧ ∀ q H', H q = none → Same H H' → H' q = some (.lst ((clo r B a).map V.str)) → Q (.ref q) H'
theorem fault_two {b : Bool} {t : Str} (h : faultN b (lns t) = none) : 2 ≤ (lns t).length := by
  unfold faultN at h
  cases e : behN (word b) (lns t) with
  | some k => rw [e] at h; cases h
  | none => exact beh_two (lns_ne t) (by cases b <;> decide) e
section
variable {P : Program} {w : World} {K : PySem.W.Frag} {mg : Str → Option Value} {base : Heap} {cM cR cU : Addr}
theorem ok_law_refs {f : Addr} {fd : FuncData} (F : Fun K "_law_refs" "_law_refs" s_law_refs f fd) (T : Tx K mg cM cR cU) : FnOk P w K mg base CX0 1 f fd P_law_refs sp_lr := by
  refine F.ok sc_law_refs (fun vs H Q E h => ?_) (fun cdv A outer s H vs Q E hr h => ?_)
  · obtain ⟨_, _, _, _, rfl, _⟩ := h
    rfl
  · obtain ⟨p, B, a, x, rfl, S, ex, hg, q⟩ := h
    have nd := sc_law_refs.nd
    have hu := hu_of hr
    refine ⟨_, pss_cons (ps_asg (pe_dget hu (pv 0) (pv 1) (fun _ _ => rfl)) (pg_tup rfl (pgs_cons (pg_name (i := 2) nd rfl (Or.inl rfl)) (pgs_cons (pg_name (i := 3) nd rfl (Or.inl rfl)) pgs_nil))))
  (pss_cons (ps_set (i := 4) nd rfl (Or.inl rfl) (pe_split (pv 3) pe_str))
  (pss_cons (ps_if (pt_cmpR op_eq (pv 2) pe_str (nomark _))
    (pss_one (ps_ret (pe_lst pa_nil)))
    (pss_nil))
  (pss_cons (ps_if (pt_cmpR op_eq (pv 2) pe_str (nomark _))
    (pss_one (ps_ret (pe_slice sl_list (pv 4) (po_some pe_int) (po_some (pe_un un_neg pe_int)))))
    (pss_nil))
  (pss_one (ps_ret (pe_lc (own := [("line", 5)]) (g := gName 5) (tt := tYes) rfl nd (pi_list (pe_slice sl_list (pv 4) (po_some pe_int) (po_some (pe_un un_neg pe_int)))) (blkOk_by (N := N_law_refs) (sc := defScope s_law_refs) (by decide +kernel)) (fun _ _ _ _ _ => (pg_name (i := 5) nd rfl (Or.inl rfl))) (fun _ _ _ _ _ => pts_nil) (fun _ _ _ _ _ => (pe_ix (show IxR _ (rIxL K) from ix_list) (pe_split (pv 5) pe_str) pe_int (fun _ _ => rfl))))))))), ?_⟩
    obtain ⟨t, g, ht⟩ := S.get ex
    have hsz : x.2.length + 2 ≤ sizeLine := by have := hg.1; rw [sizeLine_eq]; omega
    refine ⟨_, rfl, _, rfl, p, _, rfl, g, t, [.str x.1, .str x.2], rfl, SqT.of ht, rfl, _, _, rfl, _, _, rfl, rfl, ?_⟩
    refine ⟨_, rfl, ⟨_, rfl⟩, x.2, nl, rfl, rfl, by decide +kernel, hsz, fun l nl' => ?_⟩
    obtain ⟨H1, eH1⟩ : ∃ H1, H1 = L2.upd H l (.lst ((Txt.split x.2 nl).map V.str)) := ⟨_, rfl⟩
    rw [← eH1]
    have hl : H1 l = some (.lst ((lns x.2).map V.str)) := by rw [eH1]; exact upd_same
    have s1 : Same H H1 := by rw [eH1]; exact same_upd nl'
    refine ⟨_, rfl, rfl, _, rfl, ?_⟩
    rw [eq_str]
    rcases hg.2.2 with e | ⟨e, ff⟩ | ⟨e, ff⟩
    · refine ite2 (fun _ => ?_) (fun z => absurd (decide_eq_true e) z)
      refine ⟨by show 0 ≤ sizeLine; decide, fun r nr => q r _ (s1.free nr) (s1.trans (same_upd nr)) ?_⟩
      rw [upd_same]
      have : refsOf x = [] := refs_layer (by rw [e]; decide +kernel)
      rw [this]; rfl
    · refine ite2 (fun z => absurd (e.symm.trans (of_decide_eq_true z)) (by decide)) (fun _ => ?_)
      refine ⟨_, rfl, rfl, _, rfl, ?_⟩
      rw [eq_str]
      refine ite2 (fun _ => ?_) (fun z => absurd (decide_eq_true e) z)
      refine ⟨.ref l, rfl, 1, rfl, 1, rfl, -1, rfl, l, _, rfl, SqL.of hl, fun r nr => q r _ (s1.free nr) (s1.trans (same_upd nr)) ?_⟩
      rw [upd_same, cut_mid V.str _ (fault_two ff)]
      have : refsOf x = mid (lns x.2) := by unfold refsOf; rw [if_pos e]
      rw [this]; rfl
    · refine ite2 (fun z => absurd (e.symm.trans (of_decide_eq_true z)) (by decide)) (fun _ => ?_)
      refine ⟨_, rfl, rfl, _, rfl, ?_⟩
      rw [eq_str]
      refine ite2 (fun z => absurd (e.symm.trans (of_decide_eq_true z)) (by decide)) (fun _ => ?_)
      refine ⟨.ref l, rfl, 1, rfl, 1, rfl, -1, rfl, l, _, rfl, SqL.of hl, fun r nr => ?_⟩
      rw [cut_mid V.str _ (fault_two ff)]
      obtain ⟨H2, eH2⟩ : ∃ H2, H2 = L2.upd H1 r (.lst (((lns x.2).drop 1).dropLast.map V.str)) := ⟨_, rfl⟩
      rw [← eH2]
      have hr2 : H2 r = some (.lst ((mid (lns x.2)).map V.str)) := by rw [eH2]; exact upd_same
      have s2 : Same H H2 := by rw [eH2]; exact s1.trans (same_upd nr)
      obtain ⟨f1, f2⟩ := fault_ok ff
      have ml : (mid (lns x.2)).length ≤ 50 := by rw [mid_len]; omega
      refine ⟨r, rfl, ⟨_, SqL.of hr2⟩, fun D nD => lc_it (walk_list (K := K) (a := r) (xs := (mid (lns x.2)).map V.str)) (fun i H' => Same H2 H' ∧ H' D = some (.lst ((((mid (lns x.2)).take i).map adr).map V.str))) ⟨same_upd nD, upd_same⟩ (fun i H' _ h => SqL.of (h.1 r _ hr2)) ?_ ?_⟩
      · rintro i v H3 H4 hi ⟨s3, h3⟩ ⟨rfl, hv⟩
        rw [List.getElem?_map] at hv
        cases ez : (mid (lns x.2))[i]? with
        | none => rw [ez] at hv; cases hv
        | some z =>
          rw [ez] at hv
          cases hv
          have hz : z ∈ mid (lns x.2) := List.mem_of_getElem? ez
          have hil : i < (mid (lns x.2)).length := (List.getElem?_eq_some_iff.mp ez).1
          have hadr : isAddr (adr z) = true := (refs_addr hg).1 (adr z) (by
            have : refsOf x = (mid (lns x.2)).map adr := by unfold refsOf; rw [e, if_neg (by decide), if_pos rfl]
            rw [this]; exact List.mem_map_of_mem hz)
          have hw : wds z = [nam z, adr z] := by
            rcases words_of z with h | ⟨_, h⟩
            · exact h
            · rw [hadr] at h; cases h
          have hzl : z.length ≤ x.2.length := lns_mem (mid_mem hz)
          refine ⟨rfl, tyes ⟨_, rfl, ⟨_, rfl⟩, z, sp, rfl, rfl, by decide +kernel, (by have := hg.1; rw [sizeLine_eq]; omega), fun m nm => ?_⟩⟩
          have nmD : D ≠ m := ne_of_none h3 nm
          refine ⟨m, _, 1, .str (adr z), rfl, rfl, SqL.of upd_same, ?_, _, by rw [upd_ne nmD]; exact h3, ?_, ?_, ?_⟩
          · show atI ((wds z).map V.str) 1 = _
            rw [hw]; rfl
          · rw [List.length_map, List.length_map, List.length_take, sizeLine_eq]; omega
          · refine fun b o hb => ?_
            by_cases hbD : b = D
            · subst hbD
              rw [nD] at hb; cases hb
            · rw [upd_ne hbD]; exact (s3.trans (same_upd nm)) b o hb
          · rw [upd_same, List.take_add_one, ez, List.map_append, List.map_append]
            rfl
      · rintro H3 ⟨s3, h3⟩
        refine q D H3 (s2.free nD) (s2.trans s3) ?_
        rw [List.length_map, List.take_length] at h3
        have : refsOf x = (mid (lns x.2)).map adr := by unfold refsOf; rw [e, if_neg (by decide), if_pos rfl]
        rw [this]; exact h3
end
end LW
namespace LW
open PySem PySem.Spec PyProof.Rows L2 GxR
section
variable {P : Program} {w : World} {K : PySem.W.Frag} {mg : Str → Option Value} {base : Heap} {cM cR cU : Addr}
theorem ok_law_whole {f : Addr} {fd : FuncData} {r L : Nat} (F : Fun K "_law_whole" "_law_whole" s_law_whole f fd) (T : Tx K mg cM cR cU)
    (C_refs : Cal P w K mg base CX0 1 "_law_refs" P_law_refs sp_lr)
    (C_whole : Cal P w K mg base CX0 L "_law_whole" P_law_whole (sp_lw r)) : FnOk P w K mg base CX0 (L + 2) f fd P_law_whole (sp_lw (r + 1)) := by
  refine F.ok sc_law_whole (fun vs H Q E h => ?_) (fun cdv A outer s H vs Q E hr h => ?_)
  · obtain ⟨_, _, _, rfl, _⟩ := h
    rfl
  · obtain ⟨p, B, a, rfl, S, hgd, _, hk, q⟩ := h
    have nd := sc_law_whole.nd
    have hu := hu_of hr
    refine ⟨_, pss_cons (ps_if (pt_cmp (pc_dnotin hu (pv 1) (pv 0)))
    (pss_one (ps_ret pe_bl))
    (pss_nil))
  (pss_cons (ps_set (i := 2) nd rfl (Or.inl rfl) (pe_dget hu (pe_disp (pps_cons pe_str pe_str (pps_cons pe_str pe_str (pps_cons pe_str pe_str pps_nil))) (by rfl) (by rfl) (fun z => by cases z) (by decide)) (pe_ix ix_tup (pe_dget hu (pv 0) (pv 1) (fun _ _ => rfl)) pe_int (fun _ _ => rfl)) (fun _ _ => rfl)))
  (pss_cons (ps_for PassesOwn.never rfl (pi_list (pe_cal C_refs hr (pa_cons (pv 0) (pa_cons (pv 1) pa_nil)) (by rfl) (by omega))) (pg_name (i := 3) nd rfl (Or.inl rfl))
    (pss_one (ps_if (PW.pt (pw_or (pt_cmp (pc_dnotin hu (pv 3) (pv 0))) (pw_or (pt_cmpR op_ne (pe_ix ix_tup (pe_dget hu (pv 0) (pv 3) (fun _ _ => rfl)) pe_int (fun _ _ => rfl)) (pv 2) (nomark _)) (pw_or1 (pt_not (pt_val (pe_cal C_whole hr (pa_cons (pv 0) (pa_cons (pv 3) pa_nil)) (by rfl) (by omega))))))))
    (pss_one (ps_ret pe_bl))
    (pss_nil))))
  (pss_one (ps_ret pe_bl)))), ?_⟩
    obtain ⟨ov, g, eg⟩ := S.isIn a
    refine ⟨_, rfl, _, rfl, p, ov, rfl, g, ?_⟩
    rw [eg]
    cases ex : lk B a with
    | none =>
      refine ⟨true, rfl, iteT ?_⟩
      have := q H (Same.refl H)
      rw [wholeN_none ex] at this
      exact this
    | some x =>
      refine ⟨false, rfl, iteF ?_⟩
      have hg := hgd _ (lk_mem ex)
      have hrk := hk x ex
      obtain ⟨t, g2, ht⟩ := S.get ex
      refine fun m nm => ?_
      refine ⟨upd_same, [(.inr "layer", .str ""), (.inr "image", .str "layer"), (.inr "bundle", .str "image")], rfl, by decide, ?_⟩
      rw [upd_upd]
      obtain ⟨H2, eH2⟩ : ∃ H2, H2 = L2.upd H m (.dK (mergeK [] [(.inr "layer", .str ""), (.inr "image", .str "layer"), (.inr "bundle", .str "image")])) := ⟨_, rfl⟩
      rw [← eH2]
      have hm : H2 m = some (.dK [(.inr "layer", .str ""), (.inr "image", .str "layer"), (.inr "bundle", .str "image")]) := by rw [eH2, upd_same]; rfl
      have s2 : Same H H2 := by rw [eH2]; exact same_upd nm
      have S2 := S.same s2
      obtain ⟨t2, g3, ht2⟩ := S2.get ex
      have hdue : DGet H2 m (.str x.1) (some (.str (due x.1))) := by
        have key : valV ([(.inr "layer", .str ""), (.inr "image", .str "layer"), (.inr "bundle", .str "image")] : List (Key × V)) (.inr x.1) = some (.str (due x.1)) := by
          rcases hg.2.2 with e | ⟨e, _⟩ | ⟨e, _⟩ <;> rw [e] <;> rfl
        rw [← key]
        exact DGet.k (k := .inr x.1) hm
      refine ⟨_, rfl, _, rfl, p, _, rfl, g3, t2, [.str x.1, .str x.2], 0, .str x.1, rfl, rfl, SqT.of ht2, at2_0, m, _, rfl, hdue, ?_⟩
      refine ⟨_, rfl, _, rfl, p, B, a, x, rfl, S2, ex, hg, fun l H3 nl s3 hl => ?_⟩
      have s03 := s2.trans s3
      have hw := whole_iwo (r := r) ex
      refine ⟨l, rfl, ⟨_, SqL.of hl⟩, ?_⟩
      refine for_it (walk_list (K := K) (a := l) (xs := (refsOf x).map V.str)) (fun i σ H' => Same H3 H' ∧ (∀ z ∈ (refsOf x).take i, iwo r B (due x.1) z = true) ∧ ∃ v, σ = [some (.ref p), some (.str a), some (.str (due x.1)), v])
        ⟨Same.refl _, by simp, none, rfl⟩ (fun _ _ _ _ h => SqL.of (h.1 l _ hl)) ?_ ?_
      · rintro i v σ H4 H5 hi ⟨s4, hall, v0, rfl⟩ ⟨rfl, hv⟩
        rw [List.getElem?_map] at hv
        cases ez : (refsOf x)[i]? with
        | none => rw [ez] at hv; cases hv
        | some z =>
          rw [ez] at hv
          cases hv
          have hz : z ∈ refsOf x := List.mem_of_getElem? ez
          have ne : refsOf x ≠ [] := fun h => by rw [h] at hz; cases hz
          have s04 := s03.trans s4
          have S4 := S.same s04
          have hrd := rk_due (r := r) (by omega) ne
          have no : iwo r B (due x.1) z = false → ∀ H', Same H5 H' → Q (.bl false) H' := fun h H' s' => by
            have := q H' (s04.trans s')
            rw [hw, show ((refsOf x).all fun z => iwo r B (due x.1) z) = false from List.all_eq_false.mpr ⟨z, hz, by rw [h]; exact Bool.false_ne_true⟩] at this
            exact this
          obtain ⟨oz, gz, egz⟩ := S4.isIn z
          refine ⟨_, rfl, _, rfl, p, oz, rfl, gz, ?_⟩
          rw [egz]
          unfold iwo at no
          cases ey : lk B z with
          | none =>
            rw [ey] at no
            exact ⟨true, rfl, iteT (iteT (no rfl H5 (Same.refl _)))⟩
          | some y =>
            rw [ey] at no
            dsimp only at no
            obtain ⟨t3, g4, ht3⟩ := S4.get ey
            refine ⟨false, rfl, iteF ⟨_, rfl, _, rfl, p, _, rfl, g4, t3, [.str y.1, .str y.2], 0, .str y.1, rfl, rfl, SqT.of ht3, at2_0, _, rfl, rfl, _, rfl, ?_⟩⟩
            rw [neq_str]
            refine ite2 (fun e => ?_) (fun e => ?_)
            · refine iteT (no ?_ H5 (Same.refl _))
              rw [decide_eq_false (of_decide_eq_true e), Bool.false_and]
            · have ed : y.1 = due x.1 := Classical.not_not.mp (of_decide_eq_false (eq_false_of_ne_true e))
              refine ⟨_, rfl, _, rfl, p, B, z, rfl, S4, hgd, by omega, fun y' hy' => ?_, fun H6 s6 => ⟨_, rfl, ?_⟩⟩
              · rw [ey] at hy'; cases hy'
                rw [ed]; exact hrd
              · rw [decide_eq_true ed, Bool.true_and] at no
                cases hwz : wholeN r B z with
                | false => exact iteT (no hwz H6 s6)
                | true =>
                  refine iteF ⟨s4.trans s6, fun z' hz' => ?_, _, rfl⟩
                  rw [List.take_add_one, ez] at hz'
                  rcases List.mem_append.mp hz' with h1 | h1
                  · exact hall z' h1
                  · rw [List.mem_singleton.mp h1]
                    unfold iwo
                    rw [ey]
                    dsimp only
                    rw [decide_eq_true ed, hwz]; rfl
      · rintro σ H4 ⟨s4, hall, v0, rfl⟩
        have := q H4 (s03.trans s4)
        rw [List.length_map, List.take_length] at hall
        rw [hw, show ((refsOf x).all fun z => iwo r B (due x.1) z) = true from List.all_eq_true.mpr hall] at this
        exact this
end
end LW
namespace LW
open PySem PySem.Spec PyProof.Rows L2 GxR
theorem in_strs (x : Str) (ls : List Str) : inV (.str x) (ls.map V.str) = decide (x ∈ ls) := by
  unfold inV
  rw [List.any_map, Bool.eq_iff_iff, List.any_eq_true, decide_eq_true_eq]
  constructor
  · rintro ⟨y, hy, e⟩
    have : y = x := by simpa [eqV] using e
    rw [← this]
    exact hy
  · intro h
    exact ⟨x, h, by simp [eqV]⟩
theorem clo_len {B : Blbs} (g : ∀ e ∈ B, Good e.2) : ∀ (n : Nat) (a : Str), (clo (n + 1) B a).length ≤ cap (n + 1) := by
  have step : ∀ (n : Nat), (∀ r, (clo n B r).length ≤ cap n) → ∀ (l F : List Str), (l.foldl (fun F r => F ++ (clo n B r).filter fun y => decide (y ∉ F)) F).length ≤ F.length + l.length * cap n := by
    intro n hn l
    induction l with
    | nil => intro F; simp
    | cons z r ih =>
      intro F
      rw [List.foldl_cons, List.length_cons, Nat.succ_mul]
      have h1 := ih (F ++ (clo n B z).filter fun y => decide (y ∉ F))
      have h2 := hn z
      have h3 := List.length_filter_le (fun y => decide (y ∉ F)) (clo n B z)
      rw [List.length_append] at h1
      omega
  intro n
  have base : ∀ r, (clo 0 B r).length ≤ cap 0 := fun _ => Nat.le_refl _
  have all : ∀ n, (∀ r, (clo n B r).length ≤ cap n) → ∀ a, (clo (n + 1) B a).length ≤ cap (n + 1) := by
    intro n hn a
    unfold clo
    show _ ≤ 1 + 50 * cap n
    cases e : lk B a with
    | none => show 1 ≤ _; omega
    | some x =>
      dsimp only
      have h1 := step n hn (refsOf x) [a]
      have hl := (refs_addr (g _ (lk_mem e))).2
      have h2 : (refsOf x).length * cap n ≤ 50 * cap n := Nat.mul_le_mul_right _ hl
      rw [List.length_singleton] at h1
      omega
  induction n with
  | zero => exact all 0 base
  | succ n ih => exact all (n + 1) ih
theorem fold_len {B : Blbs} {n : Nat} (hn : ∀ r, (clo n B r).length ≤ cap n) : ∀ (l F : List Str), (l.foldl (fun F r => F ++ (clo n B r).filter fun y => decide (y ∉ F)) F).length ≤ F.length + l.length * cap n := by
  intro l
  induction l with
  | nil => intro F; simp
  | cons z r ih =>
    intro F
    rw [List.foldl_cons, List.length_cons, Nat.succ_mul]
    have h1 := ih (F ++ (clo n B z).filter fun y => decide (y ∉ F))
    have h2 := hn z
    have h3 := List.length_filter_le (fun y => decide (y ∉ F)) (clo n B z)
    rw [List.length_append] at h1
    omega
section
variable {P : Program} {w : World} {K : PySem.W.Frag} {mg : Str → Option Value} {base : Heap} {cM cR cU : Addr}
theorem ok_law_closure {f : Addr} {fd : FuncData} {r L : Nat} (F : Fun K "_law_closure" "_law_closure" s_law_closure f fd) (T : Tx K mg cM cR cU) (r3 : cap r ≤ 3000)
    (C_refs : Cal P w K mg base CX0 1 "_law_refs" P_law_refs sp_lr)
    (C_clo : Cal P w K mg base CX0 L "_law_closure" P_law_closure (sp_lc r)) : FnOk P w K mg base CX0 (L + 2) f fd P_law_closure (sp_lc (r + 1)) := by
  refine F.ok sc_law_closure (fun vs H Q E h => ?_) (fun cdv A outer s H vs Q E hr h => ?_)
  · obtain ⟨_, _, _, rfl, _⟩ := h
    rfl
  · obtain ⟨p, B, a, rfl, S, hgd, hk, hw, q⟩ := h
    have nd := sc_law_closure.nd
    refine ⟨_, pss_cons (ps_set (i := 2) nd rfl (Or.inr rfl) (pe_lst (pa_cons (pv 1) pa_nil)))
  (pss_cons (ps_for PassesOwn.never rfl (pi_list (pe_cal C_refs hr (pa_cons (pv 0) (pa_cons (pv 1) pa_nil)) (by rfl) (by omega))) (pg_name (i := 3) nd rfl (Or.inl rfl))
    (pss_one (ps_set (i := 2) nd rfl (Or.inr rfl) (pe_op op_cat (pv 2) (pe_lc (own := [("inner", 4)]) (g := gName 4)  rfl nd (pi_list (pe_cal C_clo hr (pa_cons (pv 0) (pa_cons (pv 3) pa_nil)) (by rfl) (by omega))) (blkOk_by (N := N_law_closure) (sc := defScope s_law_closure) (by decide +kernel)) (fun _ _ _ _ _ => (pg_name (i := 4) nd rfl (Or.inl rfl))) (fun _ _ _ _ _ => (pts_one (pt_cmpR (show OpR _ (compareOp .NotIn) (rIn K true) from op_notIn_seq) (pv 4) (pv 2) (by rfl)))) (fun _ _ _ _ _ => (pv 4)))))))
  (pss_one (ps_ret (pv 2)))), ?_⟩
    cases ex : lk B a with
    | none => rw [wholeN_none ex] at hw; cases hw
    | some x =>
    have hg := hgd _ (lk_mem ex)
    have hrk := hk x ex
    rw [whole_iwo ex] at hw
    have ec : clo (r + 1) B a = (refsOf x).foldl (fun F r' => F ++ (clo r B r').filter fun y => decide (y ∉ F)) [a] := by
      conv => lhs; unfold clo
      rw [ex]
    have hl50 : (refsOf x).length ≤ 50 := (refs_addr hg).2
    have hcl : ∀ z, (clo r B z).length ≤ cap r := by
      cases r with
      | zero => exact fun _ => Nat.le_refl _
      | succ r => exact clo_len hgd r
    refine ⟨_, rfl, by show 1 ≤ sizeLine; decide, fun m nm => ?_⟩
    have s1 : Same H (upd H m (.lst [.str a])) := same_upd nm
    refine ⟨_, rfl, _, rfl, p, B, a, x, rfl, S.same s1, ex, hg, fun l H2 nl s2 hl => ?_⟩
    have hm2 : H2 m = some (.lst ([a].map V.str)) := s2 m _ upd_same
    refine ⟨l, rfl, ⟨_, SqL.of hl⟩, ?_⟩
    refine for_it (walk_list (K := K) (a := l) (xs := (refsOf x).map V.str)) (fun i σ H' => Same H H' ∧ H' l = some (.lst ((refsOf x).map V.str)) ∧ ∃ m v, H m = none ∧ H' m = some (.lst ((((refsOf x).take i).foldl (fun F r' => F ++ (clo r B r').filter fun y => decide (y ∉ F)) [a]).map V.str)) ∧ σ = [some (.ref p), some (.str a), some (.ref m), v, none])
      ⟨s1.trans s2, hl, m, none, nm, hm2, rfl⟩ (fun _ _ _ _ h => SqL.of h.2.1) ?_ ?_
    · rintro i v σ H4 H5 hi ⟨s4, hl4, m4, v0, nm4, hm4, rfl⟩ ⟨rfl, hv⟩
      rw [List.getElem?_map] at hv
      cases ez : (refsOf x)[i]? with
      | none => rw [ez] at hv; cases hv
      | some z =>
        rw [ez] at hv
        cases hv
        have hz : z ∈ refsOf x := List.mem_of_getElem? ez
        have hil : i < (refsOf x).length := (List.getElem?_eq_some_iff.mp ez).1
        have ne : refsOf x ≠ [] := fun h => by rw [h] at hz; cases hz
        have hrd := rk_due (r := r) (by omega) ne
        have hwz := List.all_eq_true.mp hw z hz
        unfold iwo at hwz
        cases ey : lk B z with
        | none => rw [ey] at hwz; cases hwz
        | some y =>
          rw [ey] at hwz
          dsimp only at hwz
          rw [Bool.and_eq_true, decide_eq_true_eq] at hwz
          obtain ⟨Fi, eFi⟩ : ∃ Fi, Fi = ((refsOf x).take i).foldl (fun F r' => F ++ (clo r B r').filter fun y => decide (y ∉ F)) [a] := ⟨_, rfl⟩
          rw [← eFi] at hm4
          refine ⟨_, rfl, _, rfl, _, rfl, p, B, z, rfl, S.same s4, hgd, fun y' hy' => ?_, hwz.2, fun c H6 nc s6 hc => ?_⟩
          · rw [ey] at hy'; cases hy'
            rw [hwz.1]; exact hrd
          · have hm6 : H6 m4 = some (.lst (Fi.map V.str)) := s6 m4 _ hm4
            refine ⟨c, rfl, ⟨_, SqL.of hc⟩, fun D nD => lc_flt (walk_list (K := K) (a := c) (xs := (clo r B z).map V.str)) (vs := [4]) (fun i => decide ((clo r B z).getD i "" ∉ Fi)) (fun i => .str ((clo r B z).getD i "")) ?_ ?_ (fun _ => rfl) ?_ ?_⟩
            · rw [List.length_map]
              have := hcl z
              omega
            · intro H7 hb
              exact hb.list nD (SqL.of hc)
            · rintro j v H7 H8 hj hb ⟨rfl, hv⟩
              rw [List.getElem?_map] at hv
              cases eu : (clo r B z)[j]? with
              | none => rw [eu] at hv; cases hv
              | some u =>
                rw [eu] at hv
                cases hv
                have e9 : (clo r B z).getD j "" = u := by rw [List.getD_eq_getElem?_getD, eu]; rfl
                refine ⟨rfl, fun Q2 k => ?_, fun _ Q2 k => ⟨_, rfl, ?_⟩⟩
                · refine ⟨_, rfl, _, rfl, m4, Fi.map V.str, rfl, .inl (hb.list nD (SqL.of hm6)), rfl, ?_, _, rfl, ?_⟩
                  · rw [List.all_map]
                    exact List.all_eq_true.mpr fun _ _ => rfl
                  · rw [if_pos rfl, in_strs]
                    rw [e9] at k
                    have : (!decide (u ∈ Fi)) = decide (u ∉ Fi) := by by_cases h : u ∈ Fi <;> simp [h]
                    rw [this]; exact k
                · rw [e9] at k; exact k
            · have hmD : m4 ≠ D := ne_of_none hm6 nD
              have elst : (((List.range ((clo r B z).map V.str).length).filter fun i => decide ((clo r B z).getD i "" ∉ Fi)).map fun i => V.str ((clo r B z).getD i "")) = ((clo r B z).filter fun y => decide (y ∉ Fi)).map V.str := by
                rw [List.length_map]
                exact filter_range (fun u => decide (u ∉ Fi)) (fun z : Str => V.str z) ("" : Str) (clo r B z)
              rw [elst]
              refine ⟨m4, D, Fi.map V.str, _, rfl, rfl, by rw [upd_ne hmD]; exact hm6, upd_same, ?_, fun m5 n5 => ?_⟩
              · have h1 := fold_len hcl ((refsOf x).take i) [a]
                rw [← eFi, List.length_singleton, List.length_take] at h1
                have h2 := hcl z
                have h3 := List.length_filter_le (fun y => decide (y ∉ Fi)) (clo r B z)
                rw [List.length_map, List.length_map, sizeLine_eq]
                have h4 : min i (refsOf x).length * cap r ≤ 50 * 3000 := Nat.mul_le_mul (by omega) r3
                omega
              · have sD : Same H (L2.upd H6 D (.lst (((clo r B z).filter fun y => decide (y ∉ Fi)).map V.str))) := (s4.trans s6).trans (same_upd nD)
                refine ⟨sD.trans (same_upd n5), ?_, m5, _, sD.free n5, ?_, rfl⟩
                · exact (s6.trans ((same_upd nD).trans (same_upd n5))) l _ hl4
                · rw [upd_same, List.take_add_one, ez, List.foldl_append, ← eFi]
                  show some (HO.lst (Fi.map V.str ++ _)) = _
                  rw [← List.map_append]
                  rfl
    · rintro σ H4 ⟨s4, hl4, m4, v0, nm4, hm4, rfl⟩
      refine ⟨_, rfl, q m4 H4 nm4 s4 ?_⟩
      rw [ec]
      rw [List.length_map, List.take_length] at hm4
      exact hm4
end
end LW
namespace LW
open PySem PySem.Spec PyProof.Rows L2 GxR
def addp (F : List Str) (l : Str) : List Str := if l ∈ F then F else F ++ [l]
theorem addp_eq (F : List Str) (l : Str) : F ++ ([l].filter fun y => decide (y ∉ F)) = addp F l := by
  unfold addp
  by_cases h : l ∈ F
  · rw [if_pos h, List.filter_cons, if_neg (by rw [decide_eq_false (by simpa using h)]; exact Bool.false_ne_true)]
    simp
  · rw [if_neg h, List.filter_cons, if_pos (by rw [decide_eq_true h])]
    rfl
theorem fold_addp (F : List Str) : ∀ (ls G : List Str), ls.foldl addp (F ++ G.filter fun y => decide (y ∉ F)) = F ++ (ls.foldl addp G).filter fun y => decide (y ∉ F) := by
  intro ls
  induction ls with
  | nil => intro G; rfl
  | cons l r ih =>
    intro G
    rw [List.foldl_cons, List.foldl_cons, ← ih (addp G l)]
    congr 1
    unfold addp
    by_cases hG : l ∈ G
    · rw [if_pos hG, if_pos]
      by_cases hF : l ∈ F
      · exact List.mem_append_left _ hF
      · exact List.mem_append_right _ (List.mem_filter.mpr ⟨hG, decide_eq_true hF⟩)
    · rw [if_neg hG, List.filter_append]
      by_cases hF : l ∈ F
      · rw [if_pos (List.mem_append_left _ hF), List.filter_cons, if_neg (by rw [decide_eq_false (by simpa using hF)]; exact Bool.false_ne_true)]
        simp
      · rw [if_neg, List.filter_cons, if_pos (by rw [decide_eq_true hF]), List.append_assoc]
        · rfl
        · intro z
          rcases List.mem_append.mp z with z | z
          · exact hF z
          · exact hG (List.mem_filter.mp z).1
theorem mem_fold_addp : ∀ (ls G : List Str) (y : Str), y ∈ ls.foldl addp G → y ∈ G ∨ y ∈ ls := by
  intro ls
  induction ls with
  | nil => intro G y h; exact .inl h
  | cons l r ih =>
    intro G y h
    rw [List.foldl_cons] at h
    rcases ih _ _ h with h | h
    · unfold addp at h
      split at h
      · exact .inl h
      · rcases List.mem_append.mp h with h | h
        · exact .inl h
        · exact .inr (by rw [List.mem_singleton.mp h]; exact List.mem_cons_self)
    · exact .inr (List.mem_cons_of_mem _ h)
section
variable {B : Blbs}
theorem gat_layer {l : Str} {y : Blb} (e : lk B l = some y) (k : rk y.1 = 0) (n : Nat) (F : List Str) : gat (n + 1) B l F = addp F l := by
  unfold gat addp
  rw [e]
  dsimp only
  rw [refs_layer k]
  rfl
theorem clo_layer {l : Str} {y : Blb} (e : lk B l = some y) (k : rk y.1 = 0) (n : Nat) : clo (n + 1) B l = [l] := by
  unfold clo
  rw [e]
  dsimp only
  rw [refs_layer k]
  rfl
theorem foldl_congr' {α β : Type} {f g : β → α → β} : ∀ (l : List α) (b : β), (∀ a ∈ l, ∀ b, f b a = g b a) → l.foldl f b = l.foldl g b := by
  intro l
  induction l with
  | nil => intro b _; rfl
  | cons a r ih =>
    intro b h
    rw [List.foldl_cons, List.foldl_cons, h a List.mem_cons_self]
    exact ih _ fun a' h' => h a' (List.mem_cons_of_mem _ h')
theorem gat_image {i : Str} {x : Blb} (e : lk B i = some x) (h : ∀ l ∈ refsOf x, ∃ y, lk B l = some y ∧ rk y.1 = 0) (n : Nat) (F : List Str) : gat (n + 2) B i F = if i ∈ F then F else (refsOf x).foldl addp (F ++ [i]) := by
  unfold gat
  rw [e]
  dsimp only
  rw [foldl_congr' (g := addp) (refsOf x) (F ++ [i]) fun l hl F => by
    obtain ⟨y, e1, e2⟩ := h l hl
    exact gat_layer e1 e2 n F]
theorem clo_image {i : Str} {x : Blb} (e : lk B i = some x) (h : ∀ l ∈ refsOf x, ∃ y, lk B l = some y ∧ rk y.1 = 0) (n : Nat) : clo (n + 2) B i = (refsOf x).foldl addp [i] := by
  unfold clo
  rw [e]
  dsimp only
  exact foldl_congr' (g := addp) (refsOf x) [i] fun l hl F => by
    obtain ⟨y, e1, e2⟩ := h l hl
    rw [clo_layer e1 e2 n]
    exact addp_eq F l
theorem gat_in {i : Str} {x : Blb} (e : lk B i = some x) (h : ∀ l ∈ refsOf x, ∃ y, lk B l = some y ∧ rk y.1 = 0) (n : Nat) (F : List Str) (c : i ∈ F → ∀ y ∈ clo (n + 2) B i, y ∈ F) : gat (n + 2) B i F = F ++ (clo (n + 2) B i).filter fun y => decide (y ∉ F) := by
  rw [gat_image e h, clo_image e h]
  by_cases hi : i ∈ F
  · rw [if_pos hi]
    have c := c hi
    rw [clo_image e h] at c
    have : ((refsOf x).foldl addp [i]).filter (fun y => decide (y ∉ F)) = [] := by
      rw [List.filter_eq_nil_iff]
      intro y hy
      rw [decide_eq_false (by simpa using c y hy)]
      exact Bool.false_ne_true
    rw [this, List.append_nil]
  · rw [if_neg hi, ← fold_addp]
    congr 2
    rw [List.filter_cons, if_pos (by rw [decide_eq_true hi])]
    rfl
theorem whole_refs {n : Nat} {a : Str} {x : Blb} (e : lk B a = some x) (h : wholeN (n + 1) B a = true) : ∀ r ∈ refsOf x, ∃ y, lk B r = some y ∧ y.1 = due x.1 ∧ wholeN n B r = true := by
  intro r hr
  rw [whole_iwo e] at h
  have := List.all_eq_true.mp h r hr
  unfold iwo at this
  cases ey : lk B r with
  | none => rw [ey] at this; cases this
  | some y =>
    rw [ey] at this
    dsimp only at this
    rw [Bool.and_eq_true, decide_eq_true_eq] at this
    exact ⟨y, rfl, this.1, this.2⟩
theorem gat_clo (g : ∀ e ∈ B, Good e.2) {a : Str} (h : wholeN 3 B a = true) : gat 3 B a [] = clo 3 B a := by
  cases e : lk B a with
  | none => rw [wholeN_none e] at h; cases h
  | some x =>
    have w := whole_refs e h
    rcases (g _ (lk_mem e)).2.2 with k | ⟨k, _⟩ | ⟨k, _⟩
    · have k : x.1 = "layer" := k
      have k0 : rk x.1 = 0 := by rw [k]; decide +kernel
      rw [gat_layer e k0, clo_layer e k0]; rfl
    · have k : x.1 = "image" := k
      have hl : ∀ l ∈ refsOf x, ∃ y, lk B l = some y ∧ rk y.1 = 0 := fun l hl => by
        obtain ⟨y, e1, e2, _⟩ := w l hl
        refine ⟨y, e1, ?_⟩
        rw [e2, k]; decide +kernel
      rw [gat_image e hl 1, clo_image e hl 1]; rfl
    · have k : x.1 = "bundle" := k
      have hi : ∀ i ∈ refsOf x, ∃ y, lk B i = some y ∧ y.1 = "image" ∧ ∀ l ∈ refsOf y, ∃ u, lk B l = some u ∧ rk u.1 = 0 := fun i hi => by
        obtain ⟨y, e1, e2, e3⟩ := w i hi
        have ky : y.1 = "image" := by rw [e2, k]; decide +kernel
        refine ⟨y, e1, ky, fun l hl => ?_⟩
        obtain ⟨u, g1, g2, _⟩ := whole_refs e1 e3 l hl
        refine ⟨u, g1, ?_⟩
        rw [g2, ky]; decide +kernel
      have main : ∀ (is : List Str), (∀ i ∈ is, i ∈ refsOf x) → ∀ F : List Str, (∀ r y, lk B r = some y → y.1 = "image" → r ∈ F → ∀ z ∈ clo 2 B r, z ∈ F) →
          is.foldl (fun F r => gat 2 B r F) F = is.foldl (fun F r => F ++ (clo 2 B r).filter fun y => decide (y ∉ F)) F := by
        intro is
        induction is with
        | nil => intro _ F _; rfl
        | cons i r ih =>
          intro hm F hc
          rw [List.foldl_cons, List.foldl_cons]
          obtain ⟨y, e1, e2, e3⟩ := hi i (hm i List.mem_cons_self)
          rw [gat_in e1 e3 0 F fun z => hc i y e1 e2 z]
          refine ih (fun j hj => hm j (List.mem_cons_of_mem _ hj)) _ fun r' y' f1 f2 f3 z hz => ?_
          have sub : ∀ z ∈ clo 2 B i, z ∈ F ++ (clo 2 B i).filter fun y => decide (y ∉ F) := fun z hz => by
            by_cases hF : z ∈ F
            · exact List.mem_append_left _ hF
            · exact List.mem_append_right _ (List.mem_filter.mpr ⟨hz, decide_eq_true hF⟩)
          rcases List.mem_append.mp f3 with f3 | f3
          · exact List.mem_append_left _ (hc r' y' f1 f2 f3 z hz)
          · have f3 := (List.mem_filter.mp f3).1
            rw [clo_image e1 e3 0] at f3
            rcases mem_fold_addp _ _ _ f3 with f4 | f4
            · rw [List.mem_singleton.mp f4] at hz
              exact sub z hz
            · obtain ⟨u, g1, g2⟩ := e3 r' f4
              rw [f1] at g1; cases g1
              rw [f2] at g2
              exact absurd g2 (by decide +kernel)
      have eg : gat 3 B a [] = (refsOf x).foldl (fun F r => gat 2 B r F) [a] := by
        conv => lhs; unfold gat
        rw [e]
        rfl
      have ec : clo 3 B a = (refsOf x).foldl (fun F r => F ++ (clo 2 B r).filter fun y => decide (y ∉ F)) [a] := by
        conv => lhs; unfold clo
        rw [e]
      rw [eg, ec]
      refine main _ (fun i h => h) [a] fun r y f1 f2 f3 => ?_
      rw [List.mem_singleton.mp f3, e] at f1
      cases f1
      rw [k] at f2
      exact absurd f2 (by decide)
end
end LW
namespace LW
open PySem PySem.Spec PyProof.Rows L2 GxR
/-! ### the texts that the law makes -/
theorem good_layer {t : Str} (h : ∀ z ∈ t.cps.toList, z ∈ drawn) (hl : t.length ≤ 10) : Good ("layer", t) := by
  refine ⟨by show t.length ≤ 5000; omega, fun c hc => ?_, .inl rfl⟩
  have key : ∀ z ∈ drawn, z < 1000 := by decide
  exact key c (h c hc)
theorem good_image {rs : List Str} (h : ∀ x ∈ rs, isAddr x = true) (hl : rs.length ≤ 10) : Good ("image", textOf (word false :: rs)) := by
  have ok : ∀ x ∈ word false :: rs, Asc x ∧ x.length + 1 ≤ 17 ∧ 10 ∉ TL.tl x := fun x hx => by
    rcases List.mem_cons.mp hx with z | z
    · rw [z]
      have := word_asc false
      exact ⟨this.1, by omega, this.2.2⟩
    · have a := addr_no (h x z)
      exact ⟨Asc.of_addr (h x z), by omega, a.2.1⟩
  refine ⟨?_, textOf_asc fun l hl => (ok l hl).1, .inr (.inl ⟨rfl, ?_⟩)⟩
  · show (textOf (word false :: rs)).length ≤ 5000
    rw [textOf_len]
    have := sum_le (fun l : Str => l.length + 1) 17 (word false :: rs) fun x hx => (ok x hx).2.1
    rw [List.length_cons] at this
    omega
  · show faultN false (lns (textOf (word false :: rs))) = none
    rw [lns_textOf fun l hl => (ok l hl).2.2, fault_image h (by omega), if_neg (by omega)]
theorem good_bundle {es : List (Str × Str)} (h : ∀ q ∈ es, isPlat q.1 = true ∧ isAddr q.2 = true) (nd : (es.map (·.1)).Nodup) (l1 : 1 ≤ es.length) (l6 : es.length ≤ 10) : Good ("bundle", textOf (word true :: es.map ent)) := by
  have ok : ∀ x ∈ word true :: es.map ent, Asc x ∧ x.length + 1 ≤ 28 ∧ 10 ∉ TL.tl x := fun x hx => by
    rcases List.mem_cons.mp hx with z | z
    · rw [z]
      have := word_asc true
      exact ⟨this.1, by omega, this.2.2⟩
    · obtain ⟨q, hq, rfl⟩ := List.mem_map.mp z
      have := ent_ok (h q hq)
      exact ⟨this.1, by omega, this.2.2⟩
  refine ⟨?_, textOf_asc fun l hl => (ok l hl).1, .inr (.inr ⟨rfl, ?_⟩)⟩
  · show (textOf (word true :: es.map ent)).length ≤ 5000
    rw [textOf_len]
    have := sum_le (fun l : Str => l.length + 1) 28 (word true :: es.map ent) fun x hx => (ok x hx).2.1
    rw [List.length_cons, List.length_map] at this
    omega
  · show faultN true (lns (textOf (word true :: es.map ent))) = none
    rw [lns_textOf fun l hl => (ok l hl).2.2, fault_bundle h nd l1 (by omega)]
/-- the number of a kind -/
def kj (k : Str) : Nat := if k = "layer" then 0 else if k = "image" then 1 else 2
theorem kj_lt (k : Str) : kj k < 3 := by
  unfold kj
  split
  · decide
  · split <;> decide
theorem kj_at {x : Blb} (g : Good x) : kinds[kj x.1]? = some x.1 := by
  rcases g.2.2 with e | ⟨e, _⟩ | ⟨e, _⟩ <;> rw [e] <;> decide +kernel
def adE (x : Blb) : Str := adOf (kj x.1) x.2
theorem adE_addr (x : Blb) : isAddr (adE x) = true := isAddr_hexS _
theorem prs_add {K : PySem.W.Frag} {H : Hp} {ts : List V} {es : List (Str × Str)} {t : Addr} {p : Str × Str} (h : Prs K H ts es) (ht : H t = some (.tup [.str p.1, .str p.2])) : Prs K H (ts ++ [.ref t]) (es ++ [p]) := by
  induction h with
  | nil => exact .cons ⟨t, rfl, ht⟩ .nil
  | cons r _ ih => exact .cons r ih
/-- the list of what is to be kept -/
structure Ord (K : PySem.W.Frag) (s c l : Addr) (H0 H : Hp) (es : List Blb) : Prop where
  sl0 : SL H0 s c
  mv : Mv s c H0 H
  sl : SL H s c
  nl : H0 l = none
  ls : ∃ ts, H l = some (.lst ts) ∧ Prs K H ts es
  ok : ∀ e ∈ es, Good e
theorem prs_keep {K : PySem.W.Frag} {H H' : Hp} {ts : List V} {es : List (Str × Str)} (h : Prs K H ts es) (k : ∀ t xs, H t = some (.tup xs) → H' t = some (.tup xs)) : Prs K H' ts es := by
  induction h with
  | nil => exact .nil
  | cons r _ ih =>
    obtain ⟨t, e, ht⟩ := r
    exact .cons ⟨t, e, k t _ ht⟩ ih
theorem Ord.ne {K : PySem.W.Frag} {s c l : Addr} {H0 H : Hp} {es : List Blb} (o : Ord K s c l H0 H es) : l ≠ s ∧ l ≠ c := o.sl0.ne o.nl
theorem Ord.mv' {K : PySem.W.Frag} {s c l : Addr} {H0 H H' : Hp} {es : List Blb} (o : Ord K s c l H0 H es) (m : Mv s c H H') (s' : SL H' s c) : Ord K s c l H0 H' es := by
  obtain ⟨ts, e, p⟩ := o.ls
  exact ⟨o.sl0, o.mv.trans m, s', o.nl, ⟨ts, m.keep l _ o.ne.1 o.ne.2 e, prs_keep p fun t xs ht => m.keep t _ (sl_tup o.sl ht).1 (sl_tup o.sl ht).2 ht⟩, o.ok⟩
theorem Ord.take {K : PySem.W.Frag} {s c l : Addr} {H0 H H' : Hp} {es : List Blb} (o : Ord K s c l H0 H es) (e : ∀ b, b ≠ s → b ≠ c → H' b = H b) (s' : SL H' s c) : Ord K s c l H0 H' es := o.mv' (Mv.take o.sl s' e) s'
theorem Ord.same {K : PySem.W.Frag} {s c l : Addr} {H0 H H' : Hp} {es : List Blb} (o : Ord K s c l H0 H es) (e : Same H H') : Ord K s c l H0 H' es := o.mv' (.same e) (o.sl.same e)
/-- one more -/
theorem Ord.push {K : PySem.W.Frag} {s c l t : Addr} {H0 H : Hp} {es : List Blb} {ts : List V} {x : Blb} (o : Ord K s c l H0 H es) (hl : H l = some (.lst ts)) (pr : Prs K H ts es) (nt : H t = none) (g : Good x) : Ord K s c l H0 (L2.upd (L2.upd H t (.tup [.str x.1, .str x.2])) l (.lst (ts ++ [.ref t]))) (es ++ [x]) := by
  have lt : l ≠ t := ne_of_none hl nt
  have st := o.sl.ne nt
  refine ⟨o.sl0, (o.mv.trans ((Mv.refl s c H).new nt)).new o.nl, ?_, o.nl, ⟨_, upd_same, prs_add (K := K) (prs_keep pr fun u xs hu => ?_) ?_⟩, fun e he => ?_⟩
  · exact (o.sl.same (same_upd nt)).eq (upd_ne o.ne.1.symm) (upd_ne o.ne.2.symm)
  · rw [upd_ne (ne_of hu hl (by intro z; cases z)), upd_ne (ne_of_none hu nt)]; exact hu
  · rw [upd_ne lt.symm, upd_same]
  · rcases List.mem_append.mp he with he | he
    · exact o.ok e he
    · rw [List.mem_singleton.mp he]; exact g
/-- a list of one's own written -/
theorem Ord.put {K : PySem.W.Frag} {s c l D : Addr} {H0 H : Hp} {es : List Blb} {ys : List V} (o : Ord K s c l H0 H es) (n0 : H0 D = none) (nl : D ≠ l) (hD : ∀ xs, H D ≠ some (.tup xs)) : Ord K s c l H0 (L2.upd H D (.lst ys)) es := by
  have n := o.sl0.ne n0
  obtain ⟨ts, e, p⟩ := o.ls
  refine ⟨o.sl0, o.mv.new n0, o.sl.eq (upd_ne n.1.symm) (upd_ne n.2.symm), o.nl, ⟨ts, by rw [upd_ne nl.symm]; exact e, prs_keep p fun t xs ht => ?_⟩, o.ok⟩
  have : t ≠ D := fun z => hD xs (by rw [← z]; exact ht)
  rw [upd_ne this]; exact ht
theorem Ord.at_ {K : PySem.W.Frag} {s c l : Addr} {H0 H : Hp} {es : List Blb} (o : Ord K s c l H0 H es) : ∃ ts, H l = some (.lst ts) ∧ Prs K H ts es ∧ ts.length = es.length := by
  obtain ⟨ts, e, p⟩ := o.ls
  exact ⟨ts, e, p, p.len⟩
end LW
namespace LW
open PySem PySem.Spec PyProof.Rows L2 GxR
abbrev s_law_fill : Stmt := topS 34
abbrev N_law_fill : List Str := ["state", "store", "blobs", "order", "k", "layers", "refs", "known", "names", "kind", "text", "address", "pair", "j", "name"]
abbrev P_law_fill : List Str := ["state", "store", "blobs"]
theorem sc_law_fill : FnScope N_law_fill P_law_fill (defScope s_law_fill) := ⟨rfl, rfl, rfl, by decide +kernel, rfl, by decide +kernel, by decide +kernel⟩
/-- blobs that may stand in the store -/
def OkB (B : Blbs) : Prop := ∀ e ∈ B, Good e.2 ∧ isAddr e.1 = true
/-- what the callees promise -/
structure FillC (P : Program) (w : World) (K : PySem.W.Frag) (mg : Str → Option Value) (base : Heap) (cU : Addr) : Prop where
  keep : CalM P w K mg base CX0 2 cU "keep" P_Store_keep (sp_Store_keep cU)
  pick : Cal P w K mg base CX0 2 "_law_pick" P_law_pick spPick
  take : Cal P w K mg base CX0 1 "_law_take" P_law_take spTake
  text : Cal P w K mg base CX0 2 "_law_text" P_law_text spText
  addr : Cal P w K mg base CX0 1 "address_of" P_address_of spAddr
  bun : Cal P w K mg base CX0 2 "bundle_text" P_bundle_text (spBundle K)
  img : Cal P w K mg base CX0 2 "image_text" P_image_text (spImage K)
section
variable {P : Program} {w : World} {K : PySem.W.Frag} {mg : Str → Option Value} {base : Heap} {cM cR cU : Addr} {A : Around} {outer : List Env} {s : Shared} {H : Hp} {Q : VK} {E : XK} {f : Addr} {cdv : Value}
/-- the last part: all is kept -/
theorem fill6 (T : Tx K mg cM cR cU) (C : FillC P w K mg base cU) (hr : Room 2 (A.deeper (envOfC "_law_fill" (defScope s_law_fill) s.heap.objs.size f cdv))) :
    ∃ t, PSs (cxOf CX0 P w K mg base N_law_fill "_law_fill" (defScope s_law_fill) f cdv A outer s H E).nox ((defBody s_law_fill).drop 6) t ∧
      ∀ (a o b l d : Addr) (ts : List V) (es : List Blb) (x4 x5 x6 x7 x8 x9 x10 x11 : Option V) (H6 : Hp), H6 l = some (.lst ts) → Prs K H6 ts es → (∀ e ∈ es, Good e) → es.length ≤ 20 → Sto cU H6 o d [] → DB H6 b [] → d ≠ b →
        (∀ B H', Sto cU H' o d B → DB H' b B → OkB B → B.length ≤ es.length → Kp (fun z => z = d ∨ z = b) H6 H' → Q (.bl true) H') →
        t { nx := fun _ H' => Q .non H', rt := Q } [some (.ref a), some (.ref o), some (.ref b), some (.ref l), x4, x5, x6, x7, x8, x9, x10, x11, none, none, none] H6 := by
  have nd := sc_law_fill.nd
  have hu := hu_of hr
  refine ⟨_, pss_cons (ps_for PassesOwn.never rfl (pi_list (pv 3)) (pg_tup rfl (pgs_cons (pg_name (i := 9) nd rfl (Or.inl rfl)) (pgs_cons (pg_name (i := 10) nd rfl (Or.inl rfl)) pgs_nil)))
    (pss_cons (ps_set (i := 11) nd rfl (Or.inl rfl) (pe_calM (pv 1) C.keep hr (pa_cons (pv 9) (pa_cons (pv 10) pa_nil))))
  (pss_cons (ps_if (pt_cmpR op_ne (pv 11) (pe_cal C.addr hr (pa_cons (pv 9) (pa_cons (pv 10) pa_nil))) (nomark _))
    (pss_one (ps_ret pe_bl))
    (pss_nil))
  (pss_one (ps_dput hu (pv 2) (pv 11) (pe_tup (pa_cons (pv 9) (pa_cons (pv 10) pa_nil))) rfl)))))
  (pss_one (ps_ret pe_bl)), ?_⟩
  intro a o b l d ts es x4 x5 x6 x7 x8 x9 x10 x11 H6 hl pr hg hn S0 D0 hdb q
  have lts := pr.len
  obtain ⟨kv0, ed0, _⟩ := S0.db
  obtain ⟨kb0, eb0, _⟩ := id D0
  obtain ⟨dx0, eo0⟩ := S0.ob
  have ob : o ≠ b := ne_of eo0 eb0 (by intro z; cases z)
  have od : o ≠ d := ne_of eo0 ed0 (by intro z; cases z)
  have lb : l ≠ b := ne_of hl eb0 (by intro z; cases z)
  have ld : l ≠ d := ne_of hl ed0 (by intro z; cases z)
  refine ⟨.ref l, rfl, l, rfl, ⟨_, SqL.of hl⟩, ?_⟩
  refine for_it (walk_list (K := K) (a := l) (xs := ts)) (fun i σ H' => ∃ B, Sto cU H' o d B ∧ DB H' b B ∧ OkB B ∧ B.length ≤ i ∧ Kp (fun z => z = d ∨ z = b) H6 H' ∧ ∃ v9 v10 v11, σ = [some (.ref a), some (.ref o), some (.ref b), some (.ref l), x4, x5, x6, x7, x8, v9, v10, v11, none, none, none])
    ⟨[], S0, D0, (fun e he => by cases he), Nat.le_refl _, Kp.refl _ _, x9, x10, x11, rfl⟩ (fun i σ H' _ h => ?_) ?_ ?_
  · obtain ⟨B, _, _, _, _, kp, _⟩ := h
    exact SqL.of (kp.keep l _ (fun z => z.elim ld lb) hl)
  · rintro i v σ H4 H5 hi ⟨B, S, D, okB, lB, kp, v9, v10, v11, rfl⟩ ⟨rfl, hv⟩
    obtain ⟨x, t, ex, rfl, ht⟩ := pr.get hv
    have gx : Good x := hg x (List.mem_of_getElem? ex)
    have ht5 : H5 t = some (.tup [.str x.1, .str x.2]) := kp.keep t _ (fun z => z.elim (ne_of ht ed0 (by intro z; cases z)) (ne_of ht eb0 (by intro z; cases z))) ht
    have hil : i < 20 := by omega
    obtain ⟨dx, ho⟩ := S.ob
    refine ⟨t, [.str x.1, .str x.2], rfl, SqT.of ht5, rfl, _, _, rfl, _, _, rfl, rfl, ?_⟩
    refine ⟨_, rfl, o, dx, _, rfl, ho, rfl, _, rfl, _, rfl, o, d, B, x.1, x.2, kj x.1, rfl, S, by omega, kj_at gx, kj_lt _, fun H7 S7 k7 => ?_⟩
    have D7 : DB H7 b B := D.keep (fun kvs e => k7.keep b _ (fun z => hdb z.symm) e) fun u xs e => k7.keep u _ (fun z => by
      obtain ⟨k, e2, _⟩ := S.db
      rw [z, e2] at e; cases e) e
    refine ⟨_, rfl, _, rfl, _, rfl, x.1, x.2, kj x.1, rfl, kj_at gx, kj_lt _, rfl, _, rfl, ?_⟩
    rw [neq_str]
    refine ite2 (fun z => absurd rfl (of_decide_eq_true z)) (fun _ => ?_)
    refine ⟨_, rfl, _, rfl, by show 2 ≤ sizeLine; decide, fun p np => ?_⟩
    obtain ⟨kvs, eb, pb⟩ := D7
    have bp : b ≠ p := ne_of_none eb np
    have eb' : (L2.upd H7 p (.tup [.str x.1, .str x.2])) b = some (.dK kvs) := by rw [upd_ne bp]; exact eb
    refine ⟨_, rfl, _, rfl, b, _, rfl, DPut.k (k := .inr (adE x)) eb' (by rw [prd_len pb, sizeLine_eq]; omega), ?_⟩
    have tk : ∀ u xs, H7 u = some (.tup xs) → (L2.upd (L2.upd H7 p (.tup [.str x.1, .str x.2])) b (.dK (putK kvs (.inr (adE x)) (.ref p)))) u = some (.tup xs) := fun u xs e => by
      rw [upd_ne (ne_of e eb (by intro z; cases z)), upd_ne (ne_of_none e np)]; exact e
    refine ⟨setB B (adE x) x, ⟨?_, ?_⟩, ⟨_, upd_same, put_prd pb tk ?_⟩, fun e he => ?_, Nat.le_trans (set_len _ _ _) (by omega), ?_, _, _, _, rfl⟩
    · obtain ⟨dx7, ho7⟩ := S7.ob
      exact ⟨dx7, by rw [upd_ne ob, upd_ne (ne_of_none ho7 np)]; exact ho7⟩
    · refine S7.db.keep (fun kv e => ?_) tk
      rw [upd_ne hdb, upd_ne (ne_of_none e np)]; exact e
    · rw [upd_ne bp.symm, upd_same]
    · rcases set_mem he with he | rfl
      · exact okB e he
      · exact ⟨gx, adE_addr x⟩
    · refine ((kp.trans (k7.weak fun z h => .inl h)).new np).put (.inr rfl) ?_
      rw [eb']
      exact fun z => by cases z
  · rintro σ H4 ⟨B, S, D, okB, lB, kp, v9, v10, v11, rfl⟩
    exact q B H4 S D okB (by omega) kp
end
end LW
namespace LW
open PySem PySem.Spec PyProof.Rows L2 GxR
def three : List Str := ["mill", "yard", "dock"]
theorem three_plat : ∀ x ∈ three, isPlat x = true := by decide +kernel
theorem SL.kept {H H' : Hp} {a c : Addr} (s : SL H a c) (k : ∀ b v, b = a ∨ b = c → H b = some v → H' b = some v) : SL H' a c := by
  obtain ⟨n, cs, h1, h2, r⟩ := s
  exact ⟨n, cs, k a _ (.inl rfl) h1, k c _ (.inr rfl) h2, r⟩
/-- what stands at the beginning of the filling, and what it ends with -/
structure Fill0 (cU : Addr) (H0 : Hp) (a c o b d : Addr) (Q : VK) : Prop where
  st : Sto cU H0 o d []
  db : DB H0 b []
  ne : d ≠ b
  fin : ∀ B H', Sto cU H' o d B → DB H' b B → OkB B → B.length ≤ 11 → SL H' a c → Kp (fun z => z = d ∨ z = b ∨ z = a ∨ z = c) H0 H' → Q (.bl true) H'
theorem cut_three (j : Nat) (h : j < 3) : cutV (three.map V.str) none (some ((1 : Int) + (j : Int))) = (three.take (j + 1)).map V.str := by
  match j, h with
  | 0, _ => rfl
  | 1, _ => rfl
  | 2, _ => rfl
theorem Mv.prs {K : PySem.W.Frag} {a c : Addr} {H H' : Hp} {ts : List V} {es : List (Str × Str)} (m : Mv a c H H') (s : SL H a c) (h : Prs K H ts es) : Prs K H' ts es :=
  prs_keep h fun t xs ht => m.keep t _ (sl_tup s ht).1 (sl_tup s ht).2 ht
section
variable {P : Program} {w : World} {K : PySem.W.Frag} {mg : Str → Option Value} {base : Heap} {cM cR cU : Addr} {A : Around} {outer : List Env} {s : Shared} {H : Hp} {Q : VK} {E : XK} {f : Addr} {cdv : Value}
theorem fill5 (T : Tx K mg cM cR cU) (C : FillC P w K mg base cU) (hr : Room 2 (A.deeper (envOfC "_law_fill" (defScope s_law_fill) s.heap.objs.size f cdv))) :
    ∃ t, PSs (cxOf CX0 P w K mg base N_law_fill "_law_fill" (defScope s_law_fill) f cdv A outer s H E).nox ((defBody s_law_fill).drop 5) t ∧
      ∀ (a c o b l d kn : Addr) (ks : List Str) (es : List Blb) (x4 x5 x6 x8 : Option V) (H0 H5 : Hp), Fill0 cU H0 a c o b d Q → Ord K a c l H0 H5 es → es.length ≤ 8 → H0 kn = none → kn ≠ l → H5 kn = some (.lst (ks.map V.str)) → (∀ x ∈ ks, isAddr x = true) → ks.length < 1000 →
        t { nx := fun _ H' => Q .non H', rt := Q } [some (.ref a), some (.ref o), some (.ref b), some (.ref l), x4, x5, x6, some (.ref kn), x8, none, none, none, none, none, none] H5 := by
  obtain ⟨t6, h6, q6⟩ := fill6 (Q := Q) (E := E) (H := H) (outer := outer) (f := f) (cdv := cdv) T C hr
  have nd := sc_law_fill.nd
  refine ⟨_, pss_cons (ps_for PassesOwn.never rfl (pi_range1 (by rfl) T.range (pa_cons (pe_cal C.take hr (pa_cons (pv 0) (pa_cons pe_int pa_nil))) pa_nil)) (pg_name (i := 4) nd rfl (Or.inl rfl))
    (pss_cons (ps_set (i := 8) nd rfl (Or.inl rfl) (pe_slice sl_list (pe_lst (pa_cons pe_str (pa_cons pe_str (pa_cons pe_str pa_nil)))) po_none (po_some (pe_op op_add pe_int (pe_cal C.take hr (pa_cons (pv 0) (pa_cons pe_int pa_nil)))))))
  (pss_one (ps_expr (pe_bm PySem.F.plainAttrs_list PySem.F.slot_list_append PySem.F.type_list_append mt_append (pv 3) (pa_cons (pe_tup (pa_cons pe_str (pa_cons (pe_cal C.bun hr (pa_cons (pe_lc (own := [("name", 14)]) (g := gName 14) (tt := tYes) rfl nd (pi_list (pv 8)) (blkOk_by (N := N_law_fill) (sc := defScope s_law_fill) (by decide +kernel)) (fun _ _ _ _ _ => (pg_name (i := 14) nd rfl (Or.inl rfl))) (fun _ _ _ _ _ => pts_nil) (fun _ _ _ _ _ => (pe_tup (pa_cons (pv 14) (pa_cons (pe_cal C.pick hr (pa_cons (pv 0) (pa_cons (pv 7) pa_nil))) pa_nil))))) pa_nil)) pa_nil))) pa_nil))))))
  h6, ?_⟩
  intro a c o b l d kn ks es x4 x5 x6 x8 H0 H5 F0 O hes nk nkl hk hka hkl
  have nka := O.sl0.ne nk
  refine ⟨_, rfl, a, c, 4, rfl, O.sl, by decide, by decide, fun v H1 v0 v4 e1 s1 => ?_⟩
  obtain ⟨n, rfl, hn4⟩ := nat_of v0 v4
  have O1 := O.take e1 s1
  have hk1 : H1 kn = some (.lst (ks.map V.str)) := by rw [e1 kn nka.1 nka.2]; exact hk
  refine ⟨_, rfl, by omega, by omega, ?_⟩
  refine for_it (walk_range (lo := 0) (n := n)) (fun i σ H' => ∃ es' x4 x8, Ord K a c l H0 H' es' ∧ es'.length ≤ 8 + i ∧ H' kn = some (.lst (ks.map V.str)) ∧ σ = [some (.ref a), some (.ref o), some (.ref b), some (.ref l), x4, x5, x6, some (.ref kn), x8, none, none, none, none, none, none])
    ⟨es, x4, x8, O1, by omega, hk1, rfl⟩ (fun _ _ _ _ _ => True.intro) ?_ ?_
  · rintro i v σ H2 H3 hi ⟨es', y4, y8, O2, he2, hk2, rfl⟩ ⟨rfl, rfl⟩
    refine ⟨(by show 3 ≤ sizeLine; decide), fun p np => ?_⟩
    have hp : (L2.upd H3 p (.lst [.str "mill", .str "yard", .str "dock"])) p = some (.lst (three.map V.str)) := upd_same
    have sp := same_upd (o := .lst [.str "mill", .str "yard", .str "dock"]) np
    generalize L2.upd H3 p (.lst [.str "mill", .str "yard", .str "dock"]) = H4 at hp sp
    have O4 := O2.same sp
    have n0p : H0 p = none := O2.mv.free p np
    have npa := O4.sl0.ne n0p
    have hk4 := sp kn _ hk2
    refine ⟨_, rfl, a, c, 3, rfl, O4.sl, by decide, by decide, fun u H5' u0 u3 e5 s5 => ?_⟩
    obtain ⟨j, rfl, hj3⟩ := nat_of u0 u3
    have O5 := O4.take e5 s5
    have hp5 : H5' p = some (.lst (three.map V.str)) := by rw [e5 p npa.1 npa.2]; exact hp
    have hk5 : H5' kn = some (.lst (ks.map V.str)) := by rw [e5 kn nka.1 nka.2]; exact hk4
    refine ⟨_, _, rfl, rfl, _, rfl, p, _, rfl, SqL.of hp5, fun r nr => ?_⟩
    rw [cut_three j (by omega)]
    obtain ⟨nm, enm⟩ : ∃ nm, nm = three.take (j + 1) := ⟨_, rfl⟩
    rw [← enm]
    have hnl : nm.length = j + 1 := by rw [enm, List.length_take]; show min (j + 1) 3 = _; omega
    have hnp : ∀ x ∈ nm, isPlat x = true := fun x hx => three_plat x (List.mem_of_mem_take (by rw [enm] at hx; exact hx))
    have hnd : nm.Nodup := by rw [enm]; exact (show three.Nodup by decide +kernel).sublist (List.take_sublist _ _)
    have hr6 : (L2.upd H5' r (.lst (nm.map V.str))) r = some (.lst (nm.map V.str)) := upd_same
    have s6 := same_upd (o := .lst (nm.map V.str)) nr
    generalize L2.upd H5' r (.lst (nm.map V.str)) = H6 at hr6 s6
    have O6 := O5.same s6
    have hk6 := s6 kn _ hk5
    have n0r : H0 r = none := O5.mv.free r nr
    have nra := O6.sl0.ne n0r
    obtain ⟨ts6, hl6, _, _⟩ := O6.at_
    refine ⟨.ref l, rfl, .inl ⟨rfl, _, SqL.of hl6⟩, .ref r, rfl, r, rfl, ⟨_, SqL.of hr6⟩, fun D nD => ?_⟩
    have Dl : D ≠ l := (ne_of_none hl6 nD).symm
    have n0D : H0 D = none := O6.mv.free D nD
    have nDa := O6.sl0.ne n0D
    have rD : r ≠ D := ne_of_none hr6 nD
    have kD : kn ≠ D := ne_of_none hk6 nD
    refine lc_it (walk_list (K := K) (a := r) (xs := nm.map V.str)) (fun i H' => ∃ ts qs, H' D = some (.lst ts) ∧ Prs K H' ts qs ∧ ts.length = i ∧ qs.map (·.1) = nm.take i ∧ (∀ q ∈ qs, isPlat q.1 = true ∧ isAddr q.2 = true) ∧ Ord K a c l H0 H' es' ∧ H' kn = some (.lst (ks.map V.str)) ∧ H' r = some (.lst (nm.map V.str)) ∧ H' D ≠ none)
      ⟨[], [], upd_same, .nil, rfl, rfl, (fun q hq => by cases hq), O6.same (same_upd nD), by rw [upd_ne kD]; exact hk6, by rw [upd_ne rD]; exact hr6, by rw [upd_same]; exact fun z => by cases z⟩ (fun i H' _ h => ?_) ?_ ?_
    · obtain ⟨_, _, _, _, _, _, _, _, _, h, _⟩ := h
      exact SqL.of h
    · rintro i' v H7 H8 hi' ⟨ts, qs, hD, pq, lq, eq, hq, O7, hk7, hr7, nD7⟩ ⟨rfl, hv⟩
      rw [List.getElem?_map] at hv
      cases ez : nm[i']? with
      | none => rw [ez] at hv; cases hv
      | some z =>
        rw [ez] at hv
        cases hv
        have hz := hnp z (List.mem_of_getElem? ez)
        refine ⟨rfl, tyes ⟨_, rfl, _, rfl, _, rfl, a, c, kn, ks, rfl, O7.sl, hk7, hkl, hka, fun x H9 hx s9 m9 => ⟨by show 2 ≤ sizeLine; decide, fun t nt => ?_⟩⟩⟩
        have hD9 : H9 D = some (.lst ts) := m9.keep D _ nDa.1 nDa.2 hD
        have Dt : D ≠ t := ne_of_none hD9 nt
        have O9 := (O7.mv' m9 s9).same (same_upd (o := .tup [.str z, .str x]) nt)
        have hk9 : H9 kn = some (.lst (ks.map V.str)) := m9.keep kn _ nka.1 nka.2 hk7
        have hr9 : H9 r = some (.lst (nm.map V.str)) := m9.keep r _ nra.1 nra.2 hr7
        have p9 := m9.prs O7.sl pq
        refine ⟨ts, by rw [upd_ne Dt]; exact hD9, ?_, ts ++ [.ref t], qs ++ [(z, x)], upd_same, prs_add (prs_keep p9 fun u xs hu => ?_) ?_, by simp [lq], ?_, ?_, ?_, ?_, ?_, by rw [upd_same]; exact fun z => by cases z⟩
        · rw [lq, sizeLine_eq]
          rw [List.length_map, hnl] at hi'
          omega
        · rw [upd_ne (ne_of hu hD9 (by intro z; cases z)), upd_ne (ne_of_none hu nt)]; exact hu
        · rw [upd_ne Dt.symm, upd_same]
        · rw [List.map_append, eq, List.take_add_one, ez]; rfl
        · intro q hq'
          rcases List.mem_append.mp hq' with h | h
          · exact hq q h
          · rw [List.mem_singleton.mp h]; exact ⟨hz, hx⟩
        · exact O9.put n0D Dl (fun xs z => by rw [upd_ne Dt, hD9] at z; cases z)
        · rw [upd_ne kD, upd_ne (ne_of_none hk9 nt)]; exact hk9
        · rw [upd_ne rD, upd_ne (ne_of_none hr9 nt)]; exact hr9
    · rintro H7 ⟨ts, qs, hD, pq, lq, eq, hq, O7, hk7, hr7, nD7⟩
      rw [List.length_map, List.take_length] at eq
      have lqn : qs.length = j + 1 := by rw [← hnl, ← eq, List.length_map]
      refine ⟨D, ts, qs, rfl, SqL.of hD, pq, by omega, fun q hq' => ?_, fun H8 s8 => ⟨by show 2 ≤ sizeLine; decide, fun t nt => ?_⟩⟩
      · have h1 := plat_no (hq q hq').1
        have h2 := addr_no (hq q hq').2
        omega
      · have O8 := O7.same s8
        obtain ⟨ts8, hl8, pr8, lt8⟩ := O8.at_
        have lt : l ≠ t := ne_of_none hl8 nt
        have gb := good_bundle hq (by rw [eq]; exact hnd) (by omega) (by omega)
        have hk8 := s8 kn _ hk7
        refine ⟨l, ts8, .ref t, rfl, rfl, by rw [upd_ne lt]; exact hl8, by rw [lt8, sizeLine_eq]; omega, ?_⟩
        refine ⟨_, _, _, O8.push hl8 pr8 nt gb, by rw [List.length_append, List.length_singleton]; omega, ?_, rfl⟩
        rw [upd_ne nkl, upd_ne (ne_of_none hk8 nt)]; exact hk8
  · rintro σ H2 ⟨es', y4, y8, O2, he2, hk2, rfl⟩
    obtain ⟨ts, hl, pr, lt⟩ := O2.at_
    refine q6 a o b l d ts es' _ _ _ _ _ _ _ _ H2 hl pr O2.ok (by omega) (F0.st.mv O2.sl0 O2.mv) (F0.db.mv O2.sl0 O2.mv) F0.ne fun B H' S' D' ok' lB kp => ?_
    obtain ⟨kvd, ed, _⟩ := F0.st.db
    obtain ⟨kvb, eb, _⟩ := F0.db
    have nd' := sl_dk O2.sl0 ed
    have nb' := sl_dk O2.sl0 eb
    have s' : SL H' a c := O2.sl.kept fun z v hz e => kp.keep z v (fun h => by
      rcases hz with rfl | rfl <;> rcases h with h | h
      · exact nd'.1 h.symm
      · exact nb'.1 h.symm
      · exact nd'.2 h.symm
      · exact nb'.2 h.symm) e
    exact F0.fin B H' S' D' ok' (by omega) s' ((Kp.mv O2.mv (.inr (.inr (.inl rfl))) (.inr (.inr (.inr rfl)))).trans (kp.weak fun z h => h.elim .inl fun h => .inr (.inl h)))
end
end LW
namespace LW
open PySem PySem.Spec PyProof.Rows L2 GxR
section
variable {P : Program} {w : World} {K : PySem.W.Frag} {mg : Str → Option Value} {base : Heap} {cM cR cU : Addr} {A : Around} {outer : List Env} {s : Shared} {H : Hp} {Q : VK} {E : XK} {f : Addr} {cdv : Value}
theorem fill4 (T : Tx K mg cM cR cU) (C : FillC P w K mg base cU) (hr : Room 2 (A.deeper (envOfC "_law_fill" (defScope s_law_fill) s.heap.objs.size f cdv))) :
    ∃ t, PSs (cxOf CX0 P w K mg base N_law_fill "_law_fill" (defScope s_law_fill) f cdv A outer s H E).nox ((defBody s_law_fill).drop 4) t ∧
      ∀ (a c o b l d : Addr) (es : List Blb) (x4 x5 x6 : Option V) (H0 H5 : Hp), Fill0 cU H0 a c o b d Q → Ord K a c l H0 H5 es → es.length ≤ 8 →
        t { nx := fun _ H' => Q .non H', rt := Q } [some (.ref a), some (.ref o), some (.ref b), some (.ref l), x4, x5, x6, none, none, none, none, none, none, none, none] H5 := by
  obtain ⟨t5, h5, q5⟩ := fill5 (Q := Q) (E := E) (H := H) (outer := outer) (f := f) (cdv := cdv) T C hr
  have nd := sc_law_fill.nd
  refine ⟨_, pss_cons (ps_set (i := 7) nd rfl (Or.inr rfl) (pe_lc (own := [("pair", 12)]) (g := gName 12) (tt := tYes) rfl nd (pi_list (pv 3)) (blkOk_by (N := N_law_fill) (sc := defScope s_law_fill) (by decide +kernel)) (fun _ _ _ _ _ => (pg_name (i := 12) nd rfl (Or.inl rfl))) (fun _ _ _ _ _ => pts_nil) (fun _ _ _ _ _ => (pe_cal C.addr hr (pa_cons (pe_ix (show IxR _ (rIxT K) from ix_tup) (pv 12) pe_int (fun _ _ => rfl)) (pa_cons (pe_ix (show IxR _ (rIxT K) from ix_tup) (pv 12) pe_int (fun _ _ => rfl)) pa_nil))))))
  h5, ?_⟩
  intro a c o b l d es x4 x5 x6 H0 H5 F0 O hes
  obtain ⟨ts, hl, pr, lt⟩ := O.at_
  refine ⟨.ref l, rfl, l, rfl, ⟨_, SqL.of hl⟩, fun D nD => lc_map (walk_list (K := K) (a := l) (xs := ts)) (vs := [12]) (fun i => .str (adE (es.getD i ("", "")))) ?_ ?_ (fun _ => rfl) ?_ ?_⟩
  · omega
  · intro H2 hb
    exact hb.list nD (SqL.of hl)
  · rintro i x H2 H3 hi hb ⟨rfl, hx⟩
    obtain ⟨p, t, ep, rfl, ht⟩ := pr.get hx
    have e9 : es.getD i ("", "") = p := by rw [List.getD_eq_getElem?_getD, ep]; rfl
    have gp := O.ok p (List.mem_of_getElem? ep)
    have ht2 := (hb.same nD) _ _ ht
    refine ⟨rfl, fun Q2 kk => ⟨_, rfl, t, [.str p.1, .str p.2], 0, .str p.1, rfl, rfl, SqT.of ht2, at2_0, _, rfl, t, [.str p.1, .str p.2], 1, .str p.2, rfl, rfl, SqT.of ht2, at2_1, p.1, p.2, kj p.1, rfl, kj_at gp, kj_lt _, ?_⟩⟩
    rw [e9] at kk
    exact kk
  · have et : ((List.range ts.length).map fun i => V.str (adE (es.getD i ("", "")))) = (es.map adE).map V.str := by
      rw [lt, range_map_get (fun z : Blb => V.str (adE z)) (("" : Str), ("" : Str)) es, List.map_map]
      rfl
    rw [et]
    have Dl : D ≠ l := (ne_of_none hl nD).symm
    refine q5 a c o b l d D (es.map adE) es _ _ _ _ H0 _ F0 (O.same (same_upd nD)) hes (O.mv.free D nD) Dl upd_same (fun x hx => ?_) (by rw [List.length_map]; omega)
    obtain ⟨y, _, rfl⟩ := List.mem_map.mp hx
    exact adE_addr y
theorem fill3 (T : Tx K mg cM cR cU) (C : FillC P w K mg base cU) (hr : Room 2 (A.deeper (envOfC "_law_fill" (defScope s_law_fill) s.heap.objs.size f cdv))) :
    ∃ t, PSs (cxOf CX0 P w K mg base N_law_fill "_law_fill" (defScope s_law_fill) f cdv A outer s H E).nox ((defBody s_law_fill).drop 3) t ∧
      ∀ (a c o b l d ly : Addr) (ks : List Str) (es : List Blb) (x4 : Option V) (H0 H5 : Hp), Fill0 cU H0 a c o b d Q → Ord K a c l H0 H5 es → es.length ≤ 4 → H0 ly = none → ly ≠ l → H5 ly = some (.lst (ks.map V.str)) → (∀ x ∈ ks, isAddr x = true) → ks.length < 1000 →
        t { nx := fun _ H' => Q .non H', rt := Q } [some (.ref a), some (.ref o), some (.ref b), some (.ref l), x4, some (.ref ly), none, none, none, none, none, none, none, none, none] H5 := by
  obtain ⟨t4, h4, q4⟩ := fill4 (Q := Q) (E := E) (H := H) (outer := outer) (f := f) (cdv := cdv) T C hr
  have nd := sc_law_fill.nd
  refine ⟨_, pss_cons (ps_for PassesOwn.never rfl (pi_range1 (by rfl) T.range (pa_cons (pe_cal C.take hr (pa_cons (pv 0) (pa_cons pe_int pa_nil))) pa_nil)) (pg_name (i := 4) nd rfl (Or.inl rfl))
    (pss_cons (ps_setLc (i := 6) (own := [("j", 13)]) (g := gName 13) (tt := tYes) rfl nd rfl rfl (sw_true rfl rfl rfl (by decide +kernel)) (pi_range1 (by rfl) T.range (pa_cons (pe_cal C.take hr (pa_cons (pv 0) (pa_cons pe_int pa_nil))) pa_nil)) (blkOk_by (N := N_law_fill) (sc := defScope s_law_fill) (by decide +kernel)) (fun _ _ _ _ _ => (pg_name (i := 13) nd rfl (Or.inl rfl))) (fun _ _ _ _ _ => pts_nil) (fun _ _ _ _ _ => (pe_cal C.pick hr (pa_cons (pv 0) (pa_cons (pv 5) pa_nil)))))
  (pss_cons (ps_if (PW.pt (pw_and (pt_cmpR op_eq (pe_cal C.take hr (pa_cons (pv 0) (pa_cons pe_int pa_nil))) pe_int (nomark _)) (pw_and1 (pt_cmpR op_gt (pe_callB call_len_seq (by rfl) T.len (by decide +kernel) (pa_cons (pv 3) pa_nil)) pe_int (nomark _)))))
    (pss_one (ps_expr (pe_bm PySem.F.plainAttrs_list PySem.F.slot_list_append PySem.F.type_list_append mt_append (pv 6) (pa_cons (pe_cal C.addr hr (pa_cons (pe_ix ix_tup (pe_ix ix_list (pv 3) (pe_op op_sub (pe_callB call_len_seq (by rfl) T.len (by decide +kernel) (pa_cons (pv 3) pa_nil)) pe_int) (fun _ _ => rfl)) pe_int (fun _ _ => rfl)) (pa_cons (pe_ix ix_tup (pe_ix ix_list (pv 3) (pe_op op_sub (pe_callB call_len_seq (by rfl) T.len (by decide +kernel) (pa_cons (pv 3) pa_nil)) pe_int) (fun _ _ => rfl)) pe_int (fun _ _ => rfl)) pa_nil))) pa_nil))))
    (pss_nil))
  (pss_one (ps_expr (pe_bm PySem.F.plainAttrs_list PySem.F.slot_list_append PySem.F.type_list_append mt_append (pv 3) (pa_cons (pe_tup (pa_cons pe_str (pa_cons (pe_cal C.img hr (pa_cons (pv 6) pa_nil)) pa_nil))) pa_nil)))))))
  h4, ?_⟩
  intro a c o b l d ly ks es x4 H0 H5 F0 O hes nk nkl hk hka hkl
  have nka := O.sl0.ne nk
  refine ⟨_, rfl, a, c, 5, rfl, O.sl, by decide, by decide, fun v H1 v0 v5 e1 s1 => ?_⟩
  obtain ⟨n, rfl, hn5⟩ := nat_of v0 v5
  have O1 := O.take e1 s1
  have hk1 : H1 ly = some (.lst (ks.map V.str)) := by rw [e1 ly nka.1 nka.2]; exact hk
  refine ⟨_, rfl, by omega, by omega, ?_⟩
  refine for_it (walk_range (lo := 0) (n := n)) (fun i σ H' => ∃ es' x4 x6, Ord K a c l H0 H' es' ∧ es'.length ≤ 4 + i ∧ H' ly = some (.lst (ks.map V.str)) ∧ σ = [some (.ref a), some (.ref o), some (.ref b), some (.ref l), x4, some (.ref ly), x6, none, none, none, none, none, none, none, none])
    ⟨es, x4, none, O1, by omega, hk1, rfl⟩ (fun _ _ _ _ _ => True.intro) ?_ ?_
  · rintro i v σ H2 H3 hi ⟨es', y4, y6, O2, he2, hk2, rfl⟩ ⟨rfl, rfl⟩
    refine ⟨_, rfl, a, c, 5, rfl, O2.sl, by decide, by decide, fun u H4 u0 u5 e4 s4 => ?_⟩
    obtain ⟨m, rfl, hm5⟩ := nat_of u0 u5
    have O4 := O2.take e4 s4
    have hk4 : H4 ly = some (.lst (ks.map V.str)) := by rw [e4 ly nka.1 nka.2]; exact hk2
    refine ⟨_, rfl, by omega, by omega, fun D nD => ?_⟩
    have n0D : H0 D = none := O4.mv.free D nD
    have nDa := O4.sl0.ne n0D
    have kD : ly ≠ D := ne_of_none hk4 nD
    obtain ⟨ts4, hl4, _, _⟩ := O4.at_
    have Dl : D ≠ l := (ne_of_none hl4 nD).symm
    show ∃ W : Nat → Nat → Hp → Prop, _
    refine lc_range (lo := 0) (n := m) (fun i H' => ∃ rs : List Str, H' D = some (.lst (rs.map V.str)) ∧ rs.length = i ∧ (∀ x ∈ rs, isAddr x = true) ∧ Ord K a c l H0 H' es' ∧ H' ly = some (.lst (ks.map V.str)))
      ⟨[], upd_same, rfl, (fun q hq => by cases hq), O4.same (same_upd nD), by rw [upd_ne kD]; exact hk4⟩ ?_ ?_
    · rintro i' H7 hi' ⟨rs, hD, lr, hrs, O7, hk7⟩
      refine ⟨rfl, tyes ⟨_, rfl, _, rfl, a, c, ly, ks, rfl, O7.sl, hk7, hkl, hka, fun x H9 hx s9 m9 => ?_⟩⟩
      have hD9 : H9 D = some (.lst (rs.map V.str)) := m9.keep D _ nDa.1 nDa.2 hD
      have hk9 : H9 ly = some (.lst (ks.map V.str)) := m9.keep ly _ nka.1 nka.2 hk7
      refine ⟨_, hD9, ?_, rs ++ [x], by rw [upd_same, List.map_append]; rfl, by simp [lr], ?_, ?_, by rw [upd_ne kD]; exact hk9⟩
      · rw [List.length_map, lr, sizeLine_eq]; omega
      · intro y hy
        rcases List.mem_append.mp hy with h | h
        · exact hrs y h
        · rw [List.mem_singleton.mp h]; exact hx
      · exact (O7.mv' m9 s9).put n0D Dl (fun xs z => by rw [hD9] at z; cases z)
    · rintro H7 ⟨rs, hD, lr, hrs, O7, hk7⟩
      refine ⟨_, rfl, a, c, 9, rfl, O7.sl, by decide, by decide, fun u H8 u0 u9 e8 s8 => ?_⟩
      have O8 := O7.take e8 s8
      have hD8 : H8 D = some (.lst (rs.map V.str)) := by rw [e8 D nDa.1 nDa.2]; exact hD
      have hk8 : H8 ly = some (.lst (ks.map V.str)) := by rw [e8 ly nka.1 nka.2]; exact hk7
      obtain ⟨ts8, hl8, pr8, lt8⟩ := O8.at_
      have lrs : rs.length ≤ 6 := by omega
      clear hD O7 hk7 s8 e8
      refine ⟨rfl, _, rfl, ite2 (fun _ => ?_) (fun _ => iteF ?_)⟩
      · refine ⟨_, rfl, l, _, rfl, .inl (SqL.of hl8), _, _, rfl, rfl, _, rfl, ite2 (fun hpos => ?_) (fun _ => ?_)⟩
        · have hpos := of_decide_eq_true hpos
          have hlt : ts8.length - 1 < ts8.length := by omega
          obtain ⟨p, t, ep, ev, ht⟩ := pr8.get (List.getElem?_eq_getElem hlt)
          have gp := O8.ok p (List.mem_of_getElem? ep)
          have ei : ((ts8.length : Nat) : Int) - 1 = ((ts8.length - 1 : Nat) : Int) := by omega
          have hat : atI ts8 (((ts8.length : Nat) : Int) - 1) = some (.ref t) := by
            rw [ei]
            exact atI_nat (by rw [List.getElem?_eq_getElem hlt, ev])
          refine ⟨.ref D, rfl, .inl ⟨rfl, _, SqL.of hD8⟩, _, rfl, _, rfl, l, _, rfl, .inl (SqL.of hl8), _, _, rfl, rfl, l, ts8, _, .ref t, rfl, rfl, SqL.of hl8, hat, t, [.str p.1, .str p.2], 0, .str p.1, rfl, rfl, SqT.of ht, at2_0,
            _, rfl, _, rfl, l, _, rfl, .inl (SqL.of hl8), _, _, rfl, rfl, l, ts8, _, .ref t, rfl, rfl, SqL.of hl8, hat, t, [.str p.1, .str p.2], 1, .str p.2, rfl, rfl, SqT.of ht, at2_1, p.1, p.2, kj p.1, rfl, kj_at gp, kj_lt _, D, rs.map V.str, .str (adE p), rfl, rfl, hD8, by rw [List.length_map, sizeLine_eq]; omega, ?_⟩
          obtain ⟨H9, eH9⟩ : ∃ H9, H9 = L2.upd H8 D (.lst (rs.map V.str ++ [.str (adE p)])) := ⟨_, rfl⟩
          rw [← eH9]
          have hD9 : H9 D = some (.lst ((rs ++ [adE p]).map V.str)) := by rw [eH9, upd_same, List.map_append]; rfl
          have O9 : Ord K a c l H0 H9 es' := by rw [eH9]; exact O8.put n0D Dl (fun xs z => by rw [hD8] at z; cases z)
          have hk9 : H9 ly = some (.lst (ks.map V.str)) := by rw [eH9, upd_ne kD]; exact hk8
          have hr9 : ∀ x ∈ rs ++ [adE p], isAddr x = true := fun x hx => by
            rcases List.mem_append.mp hx with h | h
            · exact hrs x h
            · rw [List.mem_singleton.mp h]; exact adE_addr p
          obtain ⟨ts9, hl9, _, _⟩ := O9.at_
          refine ⟨.ref l, rfl, .inl ⟨rfl, _, SqL.of hl9⟩, _, rfl, D, rs ++ [adE p], rfl, SqL.of hD9, by (rw [List.length_append, List.length_singleton]; omega), fun x hx => by rw [(addr_no (hr9 x hx)).2.2]; decide, fun Ha sa => ⟨by show 2 ≤ sizeLine; decide, fun t nt => ?_⟩⟩
          have Oa := O9.same sa
          obtain ⟨tsa, hla, pra, lta⟩ := Oa.at_
          have lt' : l ≠ t := ne_of_none hla nt
          have hka := sa ly _ hk9
          refine ⟨l, tsa, .ref t, rfl, rfl, by rw [upd_ne lt']; exact hla, by rw [lta, sizeLine_eq]; omega, ?_⟩
          refine ⟨_, _, _, Oa.push hla pra nt (good_image hr9 (by (rw [List.length_append, List.length_singleton]; omega))), by rw [List.length_append, List.length_singleton]; omega, ?_, rfl⟩
          rw [upd_ne nkl, upd_ne (ne_of_none hka nt)]; exact hka
        · obtain ⟨ts9, hl9, _, _⟩ := O8.at_
          refine ⟨.ref l, rfl, .inl ⟨rfl, _, SqL.of hl9⟩, _, rfl, D, rs, rfl, SqL.of hD8, by omega, fun x hx => by rw [(addr_no (hrs x hx)).2.2]; decide, fun Ha sa => ⟨by show 2 ≤ sizeLine; decide, fun t nt => ?_⟩⟩
          have Oa := O8.same sa
          obtain ⟨tsa, hla, pra, lta⟩ := Oa.at_
          have lt' : l ≠ t := ne_of_none hla nt
          have hka := sa ly _ hk8
          refine ⟨l, tsa, .ref t, rfl, rfl, by rw [upd_ne lt']; exact hla, by rw [lta, sizeLine_eq]; omega, ?_⟩
          refine ⟨_, _, _, Oa.push hla pra nt (good_image hrs (by omega)), by rw [List.length_append, List.length_singleton]; omega, ?_, rfl⟩
          rw [upd_ne nkl, upd_ne (ne_of_none hka nt)]; exact hka
      · obtain ⟨ts9, hl9, _, _⟩ := O8.at_
        refine ⟨.ref l, rfl, .inl ⟨rfl, _, SqL.of hl9⟩, _, rfl, D, rs, rfl, SqL.of hD8, by omega, fun x hx => by rw [(addr_no (hrs x hx)).2.2]; decide, fun Ha sa => ⟨by show 2 ≤ sizeLine; decide, fun t nt => ?_⟩⟩
        have Oa := O8.same sa
        obtain ⟨tsa, hla, pra, lta⟩ := Oa.at_
        have lt' : l ≠ t := ne_of_none hla nt
        have hka := sa ly _ hk8
        refine ⟨l, tsa, .ref t, rfl, rfl, by rw [upd_ne lt']; exact hla, by rw [lta, sizeLine_eq]; omega, ?_⟩
        refine ⟨_, _, _, Oa.push hla pra nt (good_image hrs (by omega)), by rw [List.length_append, List.length_singleton]; omega, ?_, rfl⟩
        rw [upd_ne nkl, upd_ne (ne_of_none hka nt)]; exact hka
  · rintro σ H2 ⟨es', y4, y6, O2, he2, hk2, rfl⟩
    exact q4 a c o b l d es' _ _ _ H0 H2 F0 O2 (by omega)
end
end LW
namespace LW
open PySem PySem.Spec PyProof.Rows L2 GxR
def sp_fill (cU : Addr) : Sp := fun vs H Q _ => ∃ (a c o b d : Addr), vs = [.ref a, .ref o, .ref b] ∧ SL H a c ∧ Fill0 cU H a c o b d Q
section
variable {P : Program} {w : World} {K : PySem.W.Frag} {mg : Str → Option Value} {base : Heap} {cM cR cU : Addr}
theorem ok_law_fill {f : Addr} {fd : FuncData} (F : Fun K "_law_fill" "_law_fill" s_law_fill f fd) (T : Tx K mg cM cR cU) (C : FillC P w K mg base cU) : FnOk P w K mg base CX0 3 f fd P_law_fill (sp_fill cU) := by
  refine F.ok sc_law_fill (fun vs H Q E h => ?_) (fun cdv A outer s H vs Q E hr h => ?_)
  · obtain ⟨_, _, _, _, _, rfl, _⟩ := h
    rfl
  · obtain ⟨a, c, o, b, d, rfl, s0, F0⟩ := h
    obtain ⟨t3, h3, q3⟩ := fill3 (Q := Q) (E := E) (H := H) (outer := outer) (f := f) (cdv := cdv) T C hr
    have nd := sc_law_fill.nd
    refine ⟨_, pss_cons (ps_set (i := 3) nd rfl (Or.inl rfl) (pe_lst pa_nil))
  (pss_cons (ps_for PassesOwn.never rfl (pi_range1 (by rfl) T.range (pa_cons (pe_cal C.take hr (pa_cons (pv 0) (pa_cons pe_int pa_nil))) pa_nil)) (pg_name (i := 4) nd rfl (Or.inl rfl))
    (pss_one (ps_expr (pe_bm PySem.F.plainAttrs_list PySem.F.slot_list_append PySem.F.type_list_append mt_append (pv 3) (pa_cons (pe_tup (pa_cons pe_str (pa_cons (pe_cal C.text hr (pa_cons (pv 0) (pa_cons pe_int pa_nil))) pa_nil))) pa_nil)))))
  (pss_cons (ps_set (i := 5) nd rfl (Or.inr rfl) (pe_lc (own := [("pair", 12)]) (g := gName 12) (tt := tYes) rfl nd (pi_list (pv 3)) (blkOk_by (N := N_law_fill) (sc := defScope s_law_fill) (by decide +kernel)) (fun _ _ _ _ _ => (pg_name (i := 12) nd rfl (Or.inl rfl))) (fun _ _ _ _ _ => pts_nil) (fun _ _ _ _ _ => (pe_cal C.addr hr (pa_cons pe_str (pa_cons (pe_ix (show IxR _ (rIxT K) from ix_tup) (pv 12) pe_int (fun _ _ => rfl)) pa_nil))))))
  h3)), ?_⟩
    refine ⟨Nat.zero_le _, fun l nl => ?_⟩
    have O1 : Ord K a c l H (L2.upd H l (.lst [])) [] := ⟨s0, (Mv.refl a c H).new nl, s0.same (same_upd nl), nl, ⟨[], upd_same, .nil⟩, fun e he => by cases he⟩
    refine ⟨_, rfl, a, c, 5, rfl, O1.sl, by decide, by decide, fun v H1 v0 v5 e1 s1 => ?_⟩
    obtain ⟨n, rfl, hn5⟩ := nat_of v0 v5
    have O2 := O1.take e1 s1
    refine ⟨_, rfl, by omega, by omega, ?_⟩
    refine for_it (walk_range (lo := 0) (n := n)) (fun i σ H' => ∃ es x4, Ord K a c l H H' es ∧ es.length = i ∧ (∀ e ∈ es, e.1 = "layer") ∧ σ = [some (.ref a), some (.ref o), some (.ref b), some (.ref l), x4, none, none, none, none, none, none, none, none, none, none])
      ⟨[], none, O2, rfl, (fun e he => by cases he), rfl⟩ (fun _ _ _ _ _ => True.intro) ?_ ?_
    · rintro i v σ H2 H3 hi ⟨es, y4, O3, he, hk, rfl⟩ ⟨rfl, rfl⟩
      obtain ⟨ts3, hl3, _, _⟩ := O3.at_
      refine ⟨.ref l, rfl, .inl ⟨rfl, _, SqL.of hl3⟩, _, rfl, a, c, 4, rfl, O3.sl, by decide, fun x H4 hx hz s4 m4 => ⟨by show 2 ≤ sizeLine; decide, fun t nt => ?_⟩⟩
      have O4 := O3.mv' m4 s4
      obtain ⟨ts4, hl4, pr4, lt4⟩ := O4.at_
      have lt : l ≠ t := ne_of_none hl4 nt
      refine ⟨l, ts4, .ref t, rfl, rfl, by rw [upd_ne lt]; exact hl4, by rw [lt4, sizeLine_eq]; omega, ?_⟩
      refine ⟨_, _, O4.push hl4 pr4 nt (good_layer hz (by omega)), by rw [List.length_append, List.length_singleton, he], fun e he' => ?_, rfl⟩
      rcases List.mem_append.mp he' with h | h
      · exact hk e h
      · rw [List.mem_singleton.mp h]
    · rintro σ H2 ⟨es, y4, O3, he, hk, rfl⟩
      obtain ⟨ts, hl, pr, lt⟩ := O3.at_
      refine ⟨.ref l, rfl, l, rfl, ⟨_, SqL.of hl⟩, fun D nD => lc_map (walk_list (K := K) (a := l) (xs := ts)) (vs := [12]) (fun i => .str (adE (es.getD i ("", "")))) ?_ ?_ (fun _ => rfl) ?_ ?_⟩
      · omega
      · intro H4 hb
        exact hb.list nD (SqL.of hl)
      · rintro i x H4 H5 hi hb ⟨rfl, hx⟩
        obtain ⟨p, t, ep, rfl, ht⟩ := pr.get hx
        have e9 : es.getD i ("", "") = p := by rw [List.getD_eq_getElem?_getD, ep]; rfl
        have kp := hk p (List.mem_of_getElem? ep)
        have ht2 := (hb.same nD) _ _ ht
        refine ⟨rfl, fun Q2 kk => ⟨_, rfl, t, [.str p.1, .str p.2], 1, .str p.2, rfl, rfl, SqT.of ht2, at2_1, "layer", p.2, 0, rfl, rfl, by decide, ?_⟩⟩
        rw [e9] at kk
        have : adE p = adOf 0 p.2 := by unfold adE; rw [kp]; rfl
        rw [this] at kk
        exact kk
      · have et : ((List.range ts.length).map fun i => V.str (adE (es.getD i ("", "")))) = (es.map adE).map V.str := by
          rw [lt, range_map_get (fun z : Blb => V.str (adE z)) (("" : Str), ("" : Str)) es, List.map_map]
          rfl
        rw [et]
        have Dl : D ≠ l := (ne_of_none hl nD).symm
        refine q3 a c o b l d D (es.map adE) es _ H _ F0 (O3.same (same_upd nD)) (by omega) (O3.mv.free D nD) Dl upd_same (fun x hx => ?_) (by rw [List.length_map]; omega)
        obtain ⟨y, _, rfl⟩ := List.mem_map.mp hx
        exact adE_addr y
end
end LW
namespace LW
open PySem PySem.Spec PyProof.Rows L2 GxR
abbrev s_law : Stmt := topS 38
abbrev N_law : List Str := ["script", "state", "store", "blobs", "everything", "k", "address", "told"]
abbrev P_law : List Str := ["script"]
theorem sc_law : FnScope N_law P_law (defScope s_law) := ⟨rfl, rfl, rfl, by decide +kernel, rfl, by decide +kernel, by decide +kernel⟩
structure LawC (P : Program) (w : World) (K : PySem.W.Frag) (mg : Str → Option Value) (base : Heap) (cU B1 B2 B3 : Addr) : Prop where
  K_ : CalK P w K mg base CX0 1 "Store" cU P_Store___init (sp_Store___init cU)
  adr : CalM P w K mg base CX0 1 cU "addresses" P_Store_addresses (sp_Store_addresses cU)
  bel : CalM P w K mg base CX0 6 cU "below" P_Store_below (sp_Store_below cU B1 B2)
  blo : CalM P w K mg base CX0 1 cU "blob" P_Store_blob (sp_Store_blob cU)
  clo : CalM P w K mg base CX0 22 cU "closure" P_Store_closure (sp_closure cU B1 B2 B3)
  isw : CalM P w K mg base CX0 23 cU "is_whole" P_Store_is_whole (sp_isw cU B1 B2 B3 2)
  rem : CalM P w K mg base CX0 1 cU "remove_blob" P_Store_remove_blob (sp_Store_remove_blob cU)
  lc : Cal P w K mg base CX0 6 "_law_closure" P_law_closure (sp_lc 3)
  lf : Cal P w K mg base CX0 3 "_law_fill" P_law_fill (sp_fill cU)
  lr : Cal P w K mg base CX0 1 "_law_refs" P_law_refs sp_lr
  ls : Cal P w K mg base CX0 1 "_law_state" P_law_state (spState K)
  lt : Cal P w K mg base CX0 1 "_law_take" P_law_take spTake
  lw : Cal P w K mg base CX0 6 "_law_whole" P_law_whole (sp_lw 3)
theorem strOk_kind {x : Blb} (g : Good x) : PyData.strOk x.1 = true := by
  rcases g.2.2 with e | ⟨e, _⟩ | ⟨e, _⟩ <;> rw [e] <;> decide +kernel
/-- what two dicts give for an address is the same -/
theorem got_same {K : PySem.W.Frag} {H : Hp} {B : Blbs} {a : Str} {v v' : V} (g : ∀ e ∈ B, Good e.2) (h : Got H B a v) (h' : Got H B a v') : ∃ d, Dp K H v d ∧ Dp K H v' d ∧ SeqAt.shaped d = true ∧ PyData.eqv d d = true := by
  rcases h with ⟨n, rfl⟩ | ⟨x, t, e, rfl, ht⟩
  · rcases h' with ⟨_, rfl⟩ | ⟨x, t, e, rfl, ht⟩
    · exact ⟨.none, .non, .non, by decide, by decide⟩
    · rw [n] at e; cases e
  · rcases h' with ⟨n, rfl⟩ | ⟨x', t', e', rfl, ht'⟩
    · rw [n] at e; cases e
    · rw [e] at e'; cases e'
      have gx : Good x := g _ (lk_mem e)
      have k1 := strOk_kind gx
      have k2 := gx.2.1.ok
      have dp : ∀ {t}, H t = some (.tup [.str x.1, .str x.2]) → Dp K H (.ref t) (.tuple [.str x.1, .str x.2]) := fun ht => .tup (SqT.of ht) (.cons (.str _) (.cons (.str _) .nil))
      have lay : PyData.canLay0 (.tuple [.str x.1, .str x.2]) = true := by simp [PyData.canLay0, PyData.canLayAll0, k1, k2]
      refine ⟨_, dp ht, dp ht', ?_, SeqAt.eqv_refl _ lay⟩
      unfold SeqAt.shaped
      rw [lay]
      simp [PyData.depth, PyData.depthAll]
theorem refs_ok {x : Blb} (g : Good x) : ∀ y ∈ refsOf x, PyData.strOk y = true := fun y hy => (Asc.of_addr ((refs_addr g).1 y hy)).ok
theorem mem_foldl {α β : Type} {f : List β → α → List β} {p : β → Prop} (hf : ∀ F a, (∀ y ∈ F, p y) → ∀ y ∈ f F a, p y) : ∀ (l : List α) (F : List β), (∀ y ∈ F, p y) → ∀ y ∈ l.foldl f F, p y := by
  intro l
  induction l with
  | nil => intro F h; exact h
  | cons a r ih => intro F h; rw [List.foldl_cons]; exact ih _ (hf F a h)
theorem clo_in {B : Blbs} : ∀ (n : Nat) (a : Str), wholeN n B a = true → ∀ y ∈ clo n B a, ∃ x, lk B y = some x := by
  intro n
  induction n with
  | zero => intro a h; cases h
  | succ n ih =>
    intro a h y hy
    cases e : lk B a with
    | none => rw [wholeN_none e] at h; cases h
    | some x =>
      have w := whole_refs e h
      unfold clo at hy
      rw [e] at hy
      dsimp only at hy
      have : ∀ (l F : List Str), (∀ r ∈ l, r ∈ refsOf x) → (∀ y ∈ F, ∃ x, lk B y = some x) → ∀ y ∈ l.foldl (fun F r => F ++ (clo n B r).filter fun y => decide (y ∉ F)) F, ∃ x, lk B y = some x := by
        intro l
        induction l with
        | nil => intro F _ h; exact h
        | cons r l ih2 =>
          intro F hl h
          rw [List.foldl_cons]
          refine ih2 _ (fun r' h' => hl r' (List.mem_cons_of_mem _ h')) fun y hy => ?_
          rcases List.mem_append.mp hy with z | z
          · exact h y z
          · obtain ⟨u, _, _, hw⟩ := w r (hl r List.mem_cons_self)
            exact ih r hw y (List.mem_filter.mp z).1
      exact this (refsOf x) [a] (fun r h => h) (fun y hy => by rw [List.mem_singleton.mp hy]; exact ⟨x, e⟩) y hy
section
variable {P : Program} {w : World} {K : PySem.W.Frag} {mg : Str → Option Value} {base : Heap} {cM cR cU B1 B2 B3 : Addr} {A : Around} {outer : List Env} {s : Shared} {H : Hp} {Q : VK} {E : XK} {f : Addr} {cdv : Value}
theorem law7 (T : Tx K mg cM cR cU) (C : LawC P w K mg base cU B1 B2 B3) (hr : Room 24 (A.deeper (envOfC "law" (defScope s_law) s.heap.objs.size f cdv))) (hq : ∀ H', Q (.bl true) H') :
    ∃ t, PSs (cxOf CX0 P w K mg base N_law "law" (defScope s_law) f cdv A outer s H E).nox ((defBody s_law).drop 7) t ∧
      ∀ (o b d ev : Addr) (B : Blbs) (ys : List Str) (x0 x1 x5 x6 : Option V) (H7 : Hp), At cU B1 B2 B3 H7 o d B → DB H7 b B → OkB B → H7 ev = some (.lst (ys.map V.str)) →
        t { nx := fun _ H' => Q .non H', rt := Q } [x0, x1, some (.ref o), some (.ref b), some (.ref ev), x5, x6, none] H7 := by
  have nd := sc_law.nd
  have hu := hu_of hr
  refine ⟨_, pss_cons (ps_for PassesOwn.never rfl (pi_list (pv 4)) (pg_name (i := 6) nd rfl (Or.inl rfl))
    (pss_cons (ps_set (i := 7) nd rfl (Or.inl rfl) (pe_calM (pv 2) C.isw hr (pa_cons (pv 6) pa_nil)))
  (pss_cons (ps_if (PW.pt (pw_or (pt_cmpR op_ne (pe_callB call_repr_bl (by rfl) T.rep (by decide +kernel) (pa_cons (pv 7) pa_nil)) (pe_callB call_repr_bl (by rfl) T.rep (by decide +kernel) (pa_cons (pe_cal C.lw hr (pa_cons (pv 3) (pa_cons (pv 6) pa_nil))) pa_nil)) (nomark _)) (pw_or1 (pt_cmpR (op_neD hr.units) (pe_calM (pv 2) C.blo hr (pa_cons (pv 6) pa_nil)) (pe_dget1 hu (pv 3) (pv 6) ⟨rfl, rfl, rfl, rfl⟩) (nomark _)))))
    (pss_one (ps_ret pe_bl))
    (pss_nil))
  (pss_cons (ps_if (PW.pt (pw_and (pt_cmp (pc_din hu (pv 6) (pv 3))) (pw_and1 (pt_cmpR (op_neD hr.units) (pe_calM (pv 2) C.bel hr (pa_cons (pv 6) pa_nil)) (pe_cal C.lr hr (pa_cons (pv 3) (pa_cons (pv 6) pa_nil))) (nomark _)))))
    (pss_one (ps_ret pe_bl))
    (pss_nil))
  (pss_one (ps_if (PW.pt (pw_and (pt_val (pv 7)) (pw_and1 (pt_cmpR (op_neD hr.units) (pe_calM (pv 2) C.clo hr (pa_cons (pv 6) pa_nil)) (pe_cal C.lc hr (pa_cons (pv 3) (pa_cons (pv 6) pa_nil))) (nomark _)))))
    (pss_one (ps_ret pe_bl))
    (pss_nil)))))))
  (pss_one (ps_ret (pe_or (pe_cmpR op_isBl (pe_calM (pv 2) C.isw hr (pa_cons pe_str pa_nil)) pe_bl (nomark _)) (pe_one (pe_cmp (pc_din hu pe_str (pv 3))))))), ?_⟩
  intro o b d ev B ys x0 x1 x5 x6 H7 S D okB hev
  refine ⟨.ref ev, rfl, ev, rfl, ⟨_, SqL.of hev⟩, ?_⟩
  refine for_it (walk_list (K := K) (a := ev) (xs := ys.map V.str)) (fun i σ H' => Gr H7 H' ∧ ∃ x6 x7, σ = [x0, x1, some (.ref o), some (.ref b), some (.ref ev), x5, x6, x7]) ⟨Gr.refl _, x6, none, rfl⟩ (fun i σ H' _ h => SqL.of (h.1.lst hev)) ?_ ?_
  · rintro i v σ H8 H9 hi ⟨g, y6, y7, rfl⟩ ⟨rfl, hv⟩
    rw [List.getElem?_map] at hv
    cases ez : ys[i]? with
    | none => rw [ez] at hv; cases hv
    | some a =>
      rw [ez] at hv
      cases hv
      have rk3 : ∀ x, lk B a = some x → rk x.1 ≤ 2 := fun x _ => by have := rk_lt x.1; omega
      have S0 := S.gr g
      obtain ⟨dx, ho⟩ := S0.st.ob
      refine ⟨_, rfl, o, dx, _, rfl, ho, rfl, _, rfl, o, d, B, a, rfl, S0, rk3, fun H1 g1 => ?_⟩
      have gA := g.trans g1
      have S1 := S.gr gA
      have D1 := D.gr gA
      refine ⟨_, rfl, _, rfl, _, rfl, _, rfl, b, B, a, rfl, D1, S.good, by decide, fun x _ => rk_lt _, fun H2 s2 => ⟨_, rfl, rfl, _, rfl, ?_⟩⟩
      rw [neq_str]
      refine ite2 (fun z => absurd rfl (of_decide_eq_true z)) (fun _ => ?_)
      have g2 := gA.trans (.of_same s2)
      have S2 := S.gr g2
      have D2 := D.gr g2
      obtain ⟨dx2, ho2⟩ := S2.st.ob
      refine ⟨_, rfl, o, dx2, _, rfl, ho2, rfl, _, rfl, o, d, B, a, rfl, S2.st, fun v1 hv1 => ?_⟩
      obtain ⟨ov, gd, gv⟩ := D2.got a
      obtain ⟨dd, p1, p2, sh, eqd⟩ := got_same (K := K) S.good hv1 gv
      refine ⟨_, rfl, b, rfl, D2.isD, _, rfl, ov, gd, dd, dd, p1, p2, sh, sh, _, rfl, ?_⟩
      rw [eqd]
      refine iteF ?_
      obtain ⟨oi, gi, ei⟩ := D2.isIn a
      refine ⟨_, rfl, _, rfl, b, oi, rfl, gi, ?_⟩
      rw [ei]
      cases e : lk B a with
      | none =>
        refine ⟨false, rfl, iteF (iteF ⟨_, rfl, _, rfl, ?_⟩)⟩
        rw [wholeN_none e]
        exact iteF (iteF ⟨g2, _, _, rfl⟩)
      | some x =>
        have gx : Good x := S.of e
        refine ⟨true, rfl, iteT ⟨_, rfl, o, dx2, _, rfl, ho2, rfl, _, rfl, o, d, B, a, x, rfl, S2.st, e, gx, S2.t1, S2.t2, fun p3 H3 n3 g3 hp3 => ?_⟩⟩
        have g23 := g2.trans g3
        refine ⟨_, rfl, _, rfl, b, B, a, x, rfl, D.gr g23, e, gx, fun p4 H4 n4 s4 hp4 => ?_⟩
        have okr := refs_ok gx
        refine ⟨_, _, .lst (SqL.of (s4 p3 _ hp3)) (dp_txt _), .lst (SqL.of hp4) (dp_txt _), shaped_txt okr, shaped_txt okr, _, rfl, ?_⟩
        rw [same_txt okr]
        have g24 := g23.trans (.of_same s4)
        refine iteF ⟨_, rfl, _, rfl, ?_⟩
        cases hw : wholeN (2 + 1) B a with
        | false => exact iteF (iteF ⟨g24, _, _, rfl⟩)
        | true =>
          have S4 := S.gr g24
          obtain ⟨dx4, ho4⟩ := S4.st.ob
          refine iteT ⟨_, rfl, o, dx4, _, rfl, ho4, rfl, _, rfl, o, d, B, a, rfl, S4, hw, fun p5 H5 n5 g5 hp5 => ?_⟩
          have g25 := g24.trans g5
          refine ⟨_, rfl, _, rfl, b, B, a, rfl, D.gr g25, S.good, fun x _ => rk_lt _, hw, fun p6 H6 n6 s6 hp6 => ?_⟩
          rw [gat_clo S.good hw] at hp5
          have okc : ∀ y ∈ clo 3 B a, PyData.strOk y = true := fun y hy => by
            obtain ⟨u, hu⟩ := clo_in 3 a hw y hy
            exact (Asc.of_addr (okB _ (lk_mem hu)).2).ok
          refine ⟨_, _, .lst (SqL.of (s6 p5 _ hp5)) (dp_txt _), .lst (SqL.of hp6) (dp_txt _), shaped_txt okc, shaped_txt okc, _, rfl, ?_⟩
          rw [same_txt okc]
          exact iteF ⟨g25.trans (.of_same s6), _, _, rfl⟩
  · rintro σ H8 ⟨g, y6, y7, rfl⟩
    have S0 := S.gr g
    obtain ⟨dx, ho⟩ := S0.st.ob
    refine ⟨_, rfl, o, dx, _, rfl, ho, rfl, o, d, B, _, rfl, S0, (fun x _ => by have := rk_lt x.1; omega), fun H1 g1 => ?_⟩
    refine ⟨_, _, rfl, rfl, _, rfl, ?_⟩
    cases hw : wholeN (2 + 1) B (Str.ofString "ffffffffffffffff") with
    | false => exact iteT (hq H1)
    | true =>
      have D1 := D.gr (g.trans g1)
      obtain ⟨oi, gi, ei⟩ := D1.isIn (Str.ofString "ffffffffffffffff")
      refine iteF ⟨_, rfl, b, oi, rfl, gi, ?_⟩
      rw [ei]
      cases e : lk B (Str.ofString "ffffffffffffffff") with
      | none => rw [wholeN_none e] at hw; cases hw
      | some x => exact hq H1
end
end LW
namespace LW
open PySem PySem.Spec PyProof.Rows L2 GxR
theorem tab_kp {F : Addr → Prop} {H H' : Hp} {T : Addr} (t : TabG H T) (k : Kp F H H') (n : ∀ z, F z → ∀ ps, H z ≠ some (.tbl ps)) : TabG H' T := by
  obtain ⟨ps, e, r⟩ := t
  exact ⟨ps, k.keep T _ (fun z => n T z ps e) e, r⟩
theorem tab_but {H : Hp} {T b : Addr} {o u : HO} (t : TabG H T) (hb : H b = some u) (n : ∀ ps, u ≠ .tbl ps) : TabG (L2.upd H b o) T := by
  obtain ⟨ps, e, r⟩ := t
  exact ⟨ps, by rw [upd_ne (fun z => n ps (by rw [z] at e; rw [hb] at e; exact Option.some.inj e))]; exact e, r⟩
theorem OkB.drop {B : Blbs} (h : OkB B) (a : Str) : OkB (dropB B a) := fun e he => h e (List.mem_filter.mp he).1
theorem OkB.good {B : Blbs} (h : OkB B) : ∀ e ∈ B, Good e.2 := fun e he => (h e he).1
section
variable {P : Program} {w : World} {K : PySem.W.Frag} {mg : Str → Option Value} {base : Heap} {cM cR cU B1 B2 B3 : Addr} {A : Around} {outer : List Env} {s : Shared} {H : Hp} {Q : VK} {E : XK} {f : Addr} {cdv : Value}
theorem law5 (T : Tx K mg cM cR cU) (C : LawC P w K mg base cU B1 B2 B3) (hr : Room 24 (A.deeper (envOfC "law" (defScope s_law) s.heap.objs.size f cdv))) (hq : ∀ H', Q (.bl true) H') :
    ∃ t, PSs (cxOf CX0 P w K mg base N_law "law" (defScope s_law) f cdv A outer s H E).nox ((defBody s_law).drop 5) t ∧
      ∀ (a c o b d ev : Addr) (B : Blbs) (ys : List Str) (x0 : Option V) (H5 : Hp), At cU B1 B2 B3 H5 o d B → DB H5 b B → OkB B → B.length ≤ 11 → d ≠ b → SL H5 a c → H5 ev = some (.lst (ys.map V.str)) → ev ≠ a → ev ≠ c →
        t { nx := fun _ H' => Q .non H', rt := Q } [x0, some (.ref a), some (.ref o), some (.ref b), some (.ref ev), none, none, none] H5 := by
  obtain ⟨t7, h7, q7⟩ := law7 (Q := Q) (E := E) (H := H) (outer := outer) (f := f) (cdv := cdv) T C hr hq
  have nd := sc_law.nd
  refine ⟨_, pss_cons (ps_for PassesOwn.never rfl (pi_range1 (by rfl) T.range (pa_cons (pe_cal C.lt hr (pa_cons (pv 1) (pa_cons pe_int pa_nil))) pa_nil)) (pg_name (i := 5) nd rfl (Or.inl rfl))
    (pss_one (ps_if (pt_cmpR op_gt (pe_callB call_lenD (by rfl) T.len (by decide +kernel) (pa_cons (pv 3) pa_nil)) pe_int (nomark _))
    (pss_cons (ps_set (i := 6) nd rfl (Or.inl rfl) (pe_ix ix_list (pe_callB (call_sortedD rfl) (by rfl) T.sor (by decide +kernel) (pa_cons (pv 3) pa_nil)) (pe_cal C.lt hr (pa_cons (pv 1) (pa_cons (pe_callB call_lenD (by rfl) T.len (by decide +kernel) (pa_cons (pv 3) pa_nil)) pa_nil))) (fun _ _ => rfl)))
  (pss_cons (ps_expr (pe_calM (pv 2) C.rem hr (pa_cons (pv 6) pa_nil)))
  (pss_one (ps_expr (pe_dpop1 (pv 3) (pv 6) ⟨rfl, rfl, rfl, rfl⟩)))))
    (pss_nil))))
  (pss_cons (ps_if (pt_cmpR (op_neD hr.units) (pe_calM0 (pv 2) C.adr hr) (pe_callB (call_sortedD rfl) (by rfl) T.sor (by decide +kernel) (pa_cons (pv 3) pa_nil)) (nomark _))
    (pss_one (ps_ret pe_bl))
    (pss_nil))
  h7), ?_⟩
  intro a c o b d ev B ys x0 H5 S D okB lB hdb s5 hev na nc
  refine ⟨_, rfl, a, c, 5, rfl, s5, by decide, by decide, fun v H6 v0 v5 e6 s6 => ?_⟩
  obtain ⟨n, rfl, hn5⟩ := nat_of v0 v5
  have m6 := Mv.take s5 s6 e6
  have atm : ∀ {H H' : Hp} {B : Blbs}, At cU B1 B2 B3 H o d B → SL H a c → Mv a c H H' → At cU B1 B2 B3 H' o d B := fun S s m => ⟨S.st.mv s m, S.good, m.tab s S.t1, m.tab s S.t2, m.tab s S.t3⟩
  refine ⟨_, rfl, by omega, by omega, ?_⟩
  refine for_it (walk_range (lo := 0) (n := n)) (fun i σ H' => ∃ B x5 x6, At cU B1 B2 B3 H' o d B ∧ DB H' b B ∧ OkB B ∧ B.length ≤ 11 ∧ SL H' a c ∧ H' ev = some (.lst (ys.map V.str)) ∧ σ = [x0, some (.ref a), some (.ref o), some (.ref b), some (.ref ev), x5, x6, none])
    ⟨B, none, none, atm S s5 m6, D.mv s5 m6, okB, lB, s6, m6.keep ev _ na nc hev, rfl⟩ (fun _ _ _ _ _ => True.intro) ?_ ?_
  · rintro i v σ H7 H8 hi ⟨B', y5, y6, S', D', ok', lB', s', hev', rfl⟩ ⟨rfl, rfl⟩
    obtain ⟨kvs, hb, pb⟩ := id D'
    have lk' := prd_len pb
    refine ⟨_, rfl, b, kvs, rfl, hb, _, _, rfl, rfl, _, rfl, ite2 (fun hpos => ?_) (fun _ => ⟨B', _, _, S', D', ok', lB', s', hev', rfl⟩)⟩
    have hpos := of_decide_eq_true hpos
    refine ⟨_, rfl, b, kvs, B'.map (·.1), rfl, .inl hb, keysB pb, by rw [List.length_map]; omega, fun zs p pm srt np => ?_⟩
    have sp := same_upd (o := .lst (zs.map V.str)) np
    have hp : (L2.upd H8 p (.lst (zs.map V.str))) p = some (.lst (zs.map V.str)) := upd_same
    generalize L2.upd H8 p (.lst (zs.map V.str)) = H9 at sp hp
    have s9 := s'.same sp
    have zl : zs.length = kvs.length := by rw [pm.length_eq, List.length_map, lk']
    have hpa := s'.ne np
    refine ⟨_, rfl, _, rfl, b, kvs, rfl, sp b _ hb, a, c, _, rfl, s9, by omega, by omega, fun u Ha u0 u1 ea sa => ?_⟩
    obtain ⟨j, rfl, hj⟩ := nat_of u0 u1
    have ma := Mv.take s9 sa ea
    have hjl : j < zs.length := by omega
    have hpA : Ha p = some (.lst (zs.map V.str)) := ma.keep p _ hpa.1 hpa.2 hp
    refine ⟨p, _, _, .str zs[j], rfl, rfl, SqL.of hpA, atI_nat (by rw [List.getElem?_map, List.getElem?_eq_getElem hjl]; rfl), ?_⟩
    have SA := atm (S'.gr (.of_same sp)) s9 ma
    have DA := (D'.same sp).mv s9 ma
    have evA : Ha ev = some (.lst (ys.map V.str)) := ma.keep ev _ na nc (sp ev _ hev')
    obtain ⟨dx, ho⟩ := SA.st.ob
    refine ⟨_, rfl, o, dx, _, rfl, ho, rfl, _, rfl, o, d, B', zs[j], rfl, SA.st, fun Hb Sb kb => ?_⟩
    obtain ⟨kvd, ed, _⟩ := SA.st.db
    obtain ⟨kvb, eb, pb2⟩ := DA
    have eb2 : Hb b = some (.dK kvb) := kb.keep b _ (fun z => hdb z.symm) eb
    have tk : ∀ u xs, Ha u = some (.tup xs) → Hb u = some (.tup xs) := fun u xs e => kb.keep u _ (fun z => by rw [z, ed] at e; cases e) e
    have pbb := prd_imp (fun _ _ r => EntAt.keep r tk) pb2
    have hz : zs[j] ∈ B'.map (·.1) := pm.mem_iff.mp (List.getElem_mem hjl)
    rcases DB.val pbb zs[j] with ⟨no, _⟩ | ⟨y, t, e1, e2, e3⟩
    · exact absurd hz (lk_none.mp no)
    refine ⟨_, rfl, b, rfl, .inl ⟨_, .inl eb2⟩, _, rfl, kvb, .inr zs[j], _, eb2, rfl, e2, ?_⟩
    have nB : ∀ z, z = d → ∀ ps, Ha z ≠ some (.tbl ps) := fun z hz ps e => by rw [hz, ed] at e; cases e
    have tkb : ∀ u xs, Hb u = some (.tup xs) → (L2.upd Hb b (.dK (dropK kvb (.inr zs[j])))) u = some (.tup xs) := fun u xs e => by
      rw [upd_ne (ne_of e eb2 (by intro z; cases z))]; exact e
    have nad := sl_dk sa ed
    have nab := sl_dk sa eb
    have sb : SL Hb a c := sa.kept fun z v hz e => kb.keep z v (fun h => by
      rcases hz with rfl | rfl
      · exact nad.1 h.symm
      · exact nad.2 h.symm) e
    refine ⟨dropB B' zs[j], _, _, ⟨⟨?_, Sb.db.keep (fun kv e => by rw [upd_ne hdb]; exact e) tkb⟩, (ok'.drop _).good, ?_, ?_, ?_⟩, ⟨_, upd_same, prd_imp (fun _ _ r => EntAt.keep r tkb) (drop_prd pbb)⟩, ok'.drop _, Nat.le_trans (List.length_filter_le _ _) lB', ?_, ?_, rfl⟩
    · obtain ⟨dxb, hob⟩ := Sb.ob
      exact ⟨dxb, by rw [upd_ne (ne_of hob eb2 (by intro z; cases z))]; exact hob⟩
    · exact tab_but (tab_kp SA.t1 kb nB) eb2 (fun ps z => nomatch z)
    · exact tab_but (tab_kp SA.t2 kb nB) eb2 (fun ps z => nomatch z)
    · exact tab_but (tab_kp SA.t3 kb nB) eb2 (fun ps z => nomatch z)
    · exact sb.eq (upd_ne nab.1.symm) (upd_ne nab.2.symm)
    · have evb : Hb ev = some (.lst (ys.map V.str)) := kb.keep ev _ (ne_of evA ed (by intro z; cases z)) evA
      rw [upd_ne (ne_of evb eb2 (by intro z; cases z))]; exact evb
  · rintro σ H7 ⟨B', y5, y6, S', D', ok', lB', s', hev', rfl⟩
    obtain ⟨dx, ho⟩ := S'.st.ob
    refine ⟨_, rfl, o, dx, _, rfl, ho, rfl, o, d, B', rfl, S'.st, by omega, fun zs p pm srt np => ?_⟩
    have sp := same_upd (o := .lst (zs.map V.str)) np
    have hp : (L2.upd H7 p (.lst (zs.map V.str))) p = some (.lst (zs.map V.str)) := upd_same
    generalize L2.upd H7 p (.lst (zs.map V.str)) = H8 at sp hp
    obtain ⟨kvs, hb, pb⟩ := D'.same sp
    refine ⟨_, rfl, b, kvs, B'.map (·.1), rfl, .inl hb, keysB pb, by rw [List.length_map]; omega, fun us r pm2 srt2 nr => ?_⟩
    obtain rfl : zs = us := sorted_perm srt srt2 (pm.trans pm2.symm)
    have okz : ∀ x ∈ zs, PyData.strOk x = true := fun x hx => by
      obtain ⟨e, he, rfl⟩ := List.mem_map.mp (pm.mem_iff.mp hx)
      exact (Asc.of_addr (ok' e he).2).ok
    have sr := same_upd (o := .lst (zs.map V.str)) nr
    refine ⟨_, _, .lst (SqL.of (sr p _ hp)) (dp_txt _), .lst (SqL.of upd_same) (dp_txt _), shaped_txt okz, shaped_txt okz, _, rfl, ?_⟩
    rw [same_txt okz]
    have gg : Gr H7 _ := .of_same (sp.trans sr)
    exact iteF (q7 o b d ev B' ys _ _ _ _ _ (S'.gr gg) (D'.gr gg) ok' (gg.lst hev'))
end
end LW
namespace LW
open PySem PySem.Spec PyProof.Rows L2 GxR
theorem made1 {H : Hp} {o dx d C : Addr} {fs : List (Str × V)} (no : H o = none) (ndx : H dx = none) (nd : (L2.upd (L2.upd H dx (.own o)) o (.ins C dx [])) d = none) :
    (L2.upd (L2.upd (L2.upd (L2.upd H dx (.own o)) o (.ins C dx [])) d (.dK [])) o (.ins C dx fs)) o = some (.ins C dx fs) ∧
    (L2.upd (L2.upd (L2.upd (L2.upd H dx (.own o)) o (.ins C dx [])) d (.dK [])) o (.ins C dx fs)) d = some (.dK []) ∧
    Same H (L2.upd (L2.upd (L2.upd (L2.upd H dx (.own o)) o (.ins C dx [])) d (.dK [])) o (.ins C dx fs)) := by
  have do_ : d ≠ o := fun z => by rw [z, upd_same] at nd; cases nd
  have nd1 : (L2.upd H dx (.own o)) d = none := by rw [upd_ne do_] at nd; exact nd
  have ddx : d ≠ dx := fun z => by rw [z, upd_same] at nd1; cases nd1
  have nd0 : H d = none := by rw [upd_ne ddx] at nd1; exact nd1
  refine ⟨upd_same, by rw [upd_ne do_, upd_same], fun b v e => ?_⟩
  rw [upd_ne (ne_of_none e no), upd_ne (ne_of_none e nd0), upd_ne (ne_of_none e no), upd_ne (ne_of_none e ndx)]
  exact e
def sp_law (K : PySem.W.Frag) (B1 B2 B3 : Addr) : Sp := fun vs H Q _ => ∃ (l : Addr) (ns : List Int), vs = [.ref l] ∧ SqL K H l (ns.map V.int) ∧ ns.length ≤ 63 ∧ TabG H B1 ∧ TabG H B2 ∧ TabG H B3 ∧ ∀ H', Q (.bl true) H'
section
variable {P : Program} {w : World} {K : PySem.W.Frag} {mg : Str → Option Value} {base : Heap} {cM cR cU B1 B2 B3 : Addr}
theorem ok_law {f : Addr} {fd : FuncData} (F : Fun K "law" "law" s_law f fd) (T : Tx K mg cM cR cU) (C : LawC P w K mg base cU B1 B2 B3) : FnOk P w K mg base CX0 25 f fd P_law (sp_law K B1 B2 B3) := by
  refine F.ok sc_law (fun vs H Q E h => ?_) (fun cdv A outer s H vs Q E hr h => ?_)
  · obtain ⟨_, _, rfl, _⟩ := h
    rfl
  · obtain ⟨l, ns, rfl, hS, hl, t1, t2, t3, hq⟩ := h
    obtain ⟨t5, h5, q5⟩ := law5 (Q := Q) (E := E) (H := H) (outer := outer) (f := f) (cdv := cdv) T C hr hq
    have nd := sc_law.nd
    refine ⟨_, pss_cons (ps_set (i := 1) nd rfl (Or.inl rfl) (pe_cal C.ls hr (pa_cons (pv 0) pa_nil)))
  (pss_cons (ps_set (i := 2) nd rfl (Or.inl rfl) (pe_calK0 C.K_ hr))
  (pss_cons (ps_set (i := 3) nd rfl (Or.inl rfl) pe_dnewK)
  (pss_cons (ps_if (pt_not (pt_val (pe_cal C.lf hr (pa_cons (pv 1) (pa_cons (pv 2) (pa_cons (pv 3) pa_nil))))))
    (pss_one (ps_ret pe_bl))
    (pss_nil))
  (pss_cons (ps_set (i := 4) nd rfl (Or.inl rfl) (pe_callB (call_sortedD rfl) (by rfl) T.sor (by decide +kernel) (pa_cons (pv 3) pa_nil)))
  h5)))), ?_⟩
    refine ⟨_, rfl, l, ns, rfl, hS, hl, fun a c H1 na nc sm1 s1 => ?_⟩
    refine fun o dx no ndx nex => ⟨o, dx, rfl, upd_same, fun d nd' => ⟨rfl, fun b nb => ?_⟩⟩
    obtain ⟨c1, c2, c3⟩ := made1 (fs := [("_blobs", .ref d)]) no ndx nd'
    have sb := same_upd (o := HO.dK []) nb
    revert sb
    generalize hHf : L2.upd _ b (HO.dK []) = Hf
    intro sb
    have f_o := sb _ _ c1
    have f_d := sb _ _ c2
    have f_b : Hf b = some (.dK []) := by rw [← hHf, upd_same]
    have s01 := (sm1.trans c3).trans sb
    have f_s : SL Hf a c := (s1.same c3).same sb
    have bd : d ≠ b := ne_of_none c2 nb
    have F0 : ∀ {R : VK}, (∀ B H', Sto cU H' o d B → DB H' b B → OkB B → B.length ≤ 11 → SL H' a c → Kp (fun z => z = d ∨ z = b ∨ z = a ∨ z = c) Hf H' → R (.bl true) H') → Fill0 cU Hf a c o b d R :=
      fun {R} k => ⟨⟨⟨dx, f_o⟩, ⟨[], f_d, .nil⟩⟩, ⟨[], f_b, .nil⟩, bd, k⟩
    refine ⟨_, rfl, _, rfl, _, rfl, a, c, o, b, d, rfl, f_s, F0 fun B H2 S D okB lB s2 kp => ⟨_, rfl, iteF ?_⟩⟩
    obtain ⟨kvs, hb, pb⟩ := id D
    refine ⟨_, rfl, b, kvs, B.map (·.1), rfl, .inl hb, keysB pb, by rw [List.length_map]; omega, fun ys p pm srt np => ?_⟩
    have sp := same_upd (o := .lst (ys.map V.str)) np
    have tb : ∀ {T}, TabG H T → TabG H2 T := fun {T} t => tab_kp (tab_same t s01) kp fun z hz ps e => by
      obtain ⟨m, cs, h1, h2, _⟩ := f_s
      rcases hz with rfl | rfl | rfl | rfl
      · rw [f_d] at e; cases e
      · rw [f_b] at e; cases e
      · rw [h1] at e; cases e
      · rw [h2] at e; cases e
    have npa := s2.ne np
    have AT : At cU B1 B2 B3 H2 o d B := ⟨S, okB.good, tb t1, tb t2, tb t3⟩
    exact q5 a c o b d p B ys _ _ (AT.gr (.of_same sp)) (D.same sp) okB lB bd (s2.same sp) upd_same npa.1 npa.2
end
end LW
namespace LW
open PySem PySem.Spec PyProof.Rows L2 GxR
theorem vac_fn {P : Program} {w : World} {K : PySem.W.Frag} {mg : Str → Option Value} {base : Heap} {CX : CXT} {k : Nat} {f : Addr} {fd : FuncData} {ps : List Str} {sp : Sp} (h : ∀ vs H Q E, ¬ sp vs H Q E) : FnOk P w K mg base CX k f fd ps sp :=
  ⟨fun vs H Q E z => absurd z (h vs H Q E), fun _ _ _ H _ _ vs Q E _ _ _ _ z => absurd z (h vs H Q E)⟩
theorem all_mk {l : PySem.W.OpenLaw} {w : World} {K : PySem.W.Frag} {h : Heap} {mg : Str → Option Value} {fa B1 B2 B3 : Addr}
    {f_ia c_ia : Addr} {oc_ia kV_ia dc_ia pm_ia ct_ia : Value} {od_ia an_ia : Option Addr} {sl_ia : Array (Option Value)}
    {f_ip c_ip : Addr} {oc_ip kV_ip dc_ip pm_ip ct_ip : Value} {od_ip an_ip : Option Addr} {sl_ip : Array (Option Value)}
    {f_ad : Addr} {oc_ad kV_ad dc_ad pm_ad ct_ad cd_ad : Value} {od_ad an_ad : Option Addr} {sl_ad : Array (Option Value)}
    {f_it : Addr} {oc_it kV_it dc_it pm_it ct_it cd_it : Value} {od_it an_it : Option Addr} {sl_it : Array (Option Value)}
    {f_bt : Addr} {oc_bt kV_bt dc_bt pm_bt ct_bt cd_bt : Value} {od_bt an_bt : Option Addr} {sl_bt : Array (Option Value)}
    {f_ri : Addr} {oc_ri kV_ri dc_ri pm_ri ct_ri cd_ri : Value} {od_ri an_ri : Option Addr} {sl_ri : Array (Option Value)}
    {f_rb : Addr} {oc_rb kV_rb dc_rb pm_rb ct_rb cd_rb : Value} {od_rb an_rb : Option Addr} {sl_rb : Array (Option Value)}
    {f_rf : Addr} {oc_rf kV_rf dc_rf pm_rf ct_rf cd_rf : Value} {od_rf an_rf : Option Addr} {sl_rf : Array (Option Value)}
    {f_to : Addr} {oc_to kV_to dc_to pm_to ct_to cd_to : Value} {od_to an_to : Option Addr} {sl_to : Array (Option Value)}
    {f_lb : Addr} {oc_lb kV_lb dc_lb pm_lb ct_lb cd_lb : Value} {od_lb an_lb : Option Addr} {sl_lb : Array (Option Value)}
    {f_ls : Addr} {oc_ls kV_ls dc_ls pm_ls ct_ls cd_ls : Value} {od_ls an_ls : Option Addr} {sl_ls : Array (Option Value)}
    {f_lt : Addr} {oc_lt kV_lt dc_lt pm_lt ct_lt cd_lt : Value} {od_lt an_lt : Option Addr} {sl_lt : Array (Option Value)}
    {f_lx : Addr} {oc_lx kV_lx dc_lx pm_lx ct_lx cd_lx : Value} {od_lx an_lx : Option Addr} {sl_lx : Array (Option Value)}
    {f_lk : Addr} {oc_lk kV_lk dc_lk pm_lk ct_lk cd_lk : Value} {od_lk an_lk : Option Addr} {sl_lk : Array (Option Value)}
    {f_lf : Addr} {oc_lf kV_lf dc_lf pm_lf ct_lf cd_lf : Value} {od_lf an_lf : Option Addr} {sl_lf : Array (Option Value)}
    {f_lr : Addr} {oc_lr kV_lr dc_lr pm_lr ct_lr cd_lr : Value} {od_lr an_lr : Option Addr} {sl_lr : Array (Option Value)}
    {f_lh : Addr} {oc_lh kV_lh dc_lh pm_lh ct_lh cd_lh : Value} {od_lh an_lh : Option Addr} {sl_lh : Array (Option Value)}
    {f_lc : Addr} {oc_lc kV_lc dc_lc pm_lc ct_lc cd_lc : Value} {od_lc an_lc : Option Addr} {sl_lc : Array (Option Value)}
    {f_lw : Addr} {oc_lw kV_lw dc_lw pm_lw ct_lw cd_lw : Value} {od_lw an_lw : Option Addr} {sl_lw : Array (Option Value)}
    {f_si : Addr} {oc_si kV_si dc_si pm_si cd_si ct_si : Value} {od_si an_si : Option Addr} {sl_si : Array (Option Value)}
    {f_sk : Addr} {oc_sk kV_sk dc_sk pm_sk cd_sk ct_sk : Value} {od_sk an_sk : Option Addr} {sl_sk : Array (Option Value)}
    {f_sb : Addr} {oc_sb kV_sb dc_sb pm_sb cd_sb ct_sb : Value} {od_sb an_sb : Option Addr} {sl_sb : Array (Option Value)}
    {f_sr : Addr} {oc_sr kV_sr dc_sr pm_sr cd_sr ct_sr : Value} {od_sr an_sr : Option Addr} {sl_sr : Array (Option Value)}
    {f_sd : Addr} {oc_sd kV_sd dc_sd pm_sd cd_sd ct_sd : Value} {od_sd an_sd : Option Addr} {sl_sd : Array (Option Value)}
    {f_sl : Addr} {oc_sl kV_sl dc_sl pm_sl cd_sl ct_sl : Value} {od_sl an_sl : Option Addr} {sl_sl : Array (Option Value)}
    {f_sc : Addr} {oc_sc kV_sc dc_sc pm_sc cd_sc ct_sc : Value} {od_sc an_sc : Option Addr} {sl_sc : Array (Option Value)}
    {f_so : Addr} {oc_so kV_so dc_so pm_so cd_so ct_so : Value} {od_so an_so : Option Addr} {sl_so : Array (Option Value)}
    {f_sg : Addr} {oc_sg kV_sg dc_sg pm_sg cd_sg ct_sg : Value} {od_sg an_sg : Option Addr} {sl_sg : Array (Option Value)}
    {f_sw c_sw : Addr} {oc_sw kV_sw dc_sw pm_sw ct_sw : Value} {od_sw an_sw : Option Addr} {sl_sw : Array (Option Value)}
    {t0 : Tok}
    {t1 : Tok}
    {t2 : Tok}
    {t3 : Tok}
    {t4 : Tok}
    {t5 : Tok}
    {t6 : Tok}
    {t7 : Tok}
    {cM cR : Addr}
    {nm q : Str} {N : Addr} {bs : List Value} {sn : List Str} {sub : List Value} {ab : Bool} {col : Option Bool} {dd : Option Addr} {m0 m1 m2 m3 m5 : Option Value}
    {f1 : Addr}
    {oc1 kV1 dc1 pm1 ct1 : Value} {od1 an1 : Option Addr} {cda cc : Addr} {sl1 : Array (Option Value)}
    {ccl : Value} {ccd : Option Addr} {ccs : Array (Option Value)}
    {dcl : Value} {dcd : Option Addr} {dcs : Array (Option Value)} {vs : Array Value}
    {file : Str} {tf : Tok}
    {kd : Addr}
    {u1 u2 u3 : Tok} {kn : Nat} {ks : Array (Option Value)}
    {bd : Addr}
    {eb : Array DictEntry} {nb : Nat}
    {w1 w2 : Tok}
    {cU : Addr}
    (X : K.In h) (G : h.Ns mainGlobals mg) (hfa : mg "law" = some (.ref fa))
    (tb1 : PySem.W.CodeHd h c_ia B1 ∧ h.get? B1 = some { cls := .none, data := .fields #[] }) (nB1 : K.lookup B1 = none)
    (tb2 : PySem.W.CodeHd h c_ip B2 ∧ h.get? B2 = some { cls := .none, data := .fields #[] }) (nB2 : K.lookup B2 = none)
    (tb3 : PySem.W.CodeHd h c_sw B3 ∧ h.get? B3 = some { cls := .none, data := .fields #[] }) (nB3 : K.lookup B3 = none)
    (cMo : ∃ t, mg "_MODULUS" = some (.int 2305843009213693951 t))
    (a_ia : PySem.W.nsIn K mainGlobals "is_address" = some (some (.ref f_ia)))
    (l_ia : K.lookup f_ia = some ⟨oc_ia, od_ia, .func (PySem.W.fnOf "is_address" "is_address" (defArgs s_is_address) (defBody s_is_address) (defScope s_is_address) .none kV_ia dc_ia pm_ia an_ia (.ref c_ia) ct_ia), sl_ia⟩)
    (cc_ia : PySem.W.codeIn K (.ref c_ia) "is_address" = true)
    (k_ia : PySem.W.keepIn K (.ref f_ia) = true)
    (a_ip : PySem.W.nsIn K mainGlobals "_is_platform" = some (some (.ref f_ip)))
    (l_ip : K.lookup f_ip = some ⟨oc_ip, od_ip, .func (PySem.W.fnOf "_is_platform" "_is_platform" (defArgs s_is_platform) (defBody s_is_platform) (defScope s_is_platform) .none kV_ip dc_ip pm_ip an_ip (.ref c_ip) ct_ip), sl_ip⟩)
    (cc_ip : PySem.W.codeIn K (.ref c_ip) "_is_platform" = true)
    (k_ip : PySem.W.keepIn K (.ref f_ip) = true)
    (a_ad : PySem.W.nsIn K mainGlobals "address_of" = some (some (.ref f_ad)))
    (l_ad : K.lookup f_ad = some ⟨oc_ad, od_ad, .func (PySem.W.fnOf "address_of" "address_of" (defArgs s_address_of) (defBody s_address_of) (defScope s_address_of) .none kV_ad dc_ad pm_ad an_ad cd_ad ct_ad), sl_ad⟩)
    (cc_ad : PySem.W.codeIn K cd_ad "address_of" = true)
    (k_ad : PySem.W.keepIn K (.ref f_ad) = true)
    (a_it : PySem.W.nsIn K mainGlobals "image_text" = some (some (.ref f_it)))
    (l_it : K.lookup f_it = some ⟨oc_it, od_it, .func (PySem.W.fnOf "image_text" "image_text" (defArgs s_image_text) (defBody s_image_text) (defScope s_image_text) .none kV_it dc_it pm_it an_it cd_it ct_it), sl_it⟩)
    (cc_it : PySem.W.codeIn K cd_it "image_text" = true)
    (k_it : PySem.W.keepIn K (.ref f_it) = true)
    (a_bt : PySem.W.nsIn K mainGlobals "bundle_text" = some (some (.ref f_bt)))
    (l_bt : K.lookup f_bt = some ⟨oc_bt, od_bt, .func (PySem.W.fnOf "bundle_text" "bundle_text" (defArgs s_bundle_text) (defBody s_bundle_text) (defScope s_bundle_text) .none kV_bt dc_bt pm_bt an_bt cd_bt ct_bt), sl_bt⟩)
    (cc_bt : PySem.W.codeIn K cd_bt "bundle_text" = true)
    (k_bt : PySem.W.keepIn K (.ref f_bt) = true)
    (a_ri : PySem.W.nsIn K mainGlobals "read_image" = some (some (.ref f_ri)))
    (l_ri : K.lookup f_ri = some ⟨oc_ri, od_ri, .func (PySem.W.fnOf "read_image" "read_image" (defArgs s_read_image) (defBody s_read_image) (defScope s_read_image) .none kV_ri dc_ri pm_ri an_ri cd_ri ct_ri), sl_ri⟩)
    (cc_ri : PySem.W.codeIn K cd_ri "read_image" = true)
    (k_ri : PySem.W.keepIn K (.ref f_ri) = true)
    (a_rb : PySem.W.nsIn K mainGlobals "read_bundle" = some (some (.ref f_rb)))
    (l_rb : K.lookup f_rb = some ⟨oc_rb, od_rb, .func (PySem.W.fnOf "read_bundle" "read_bundle" (defArgs s_read_bundle) (defBody s_read_bundle) (defScope s_read_bundle) .none kV_rb dc_rb pm_rb an_rb cd_rb ct_rb), sl_rb⟩)
    (cc_rb : PySem.W.codeIn K cd_rb "read_bundle" = true)
    (k_rb : PySem.W.keepIn K (.ref f_rb) = true)
    (a_rf : PySem.W.nsIn K mainGlobals "references" = some (some (.ref f_rf)))
    (l_rf : K.lookup f_rf = some ⟨oc_rf, od_rf, .func (PySem.W.fnOf "references" "references" (defArgs s_references) (defBody s_references) (defScope s_references) .none kV_rf dc_rf pm_rf an_rf cd_rf ct_rf), sl_rf⟩)
    (cc_rf : PySem.W.codeIn K cd_rf "references" = true)
    (k_rf : PySem.W.keepIn K (.ref f_rf) = true)
    (a_to : PySem.W.nsIn K mainGlobals "_text_of" = some (some (.ref f_to)))
    (l_to : K.lookup f_to = some ⟨oc_to, od_to, .func (PySem.W.fnOf "_text_of" "_text_of" (defArgs s_text_of) (defBody s_text_of) (defScope s_text_of) .none kV_to dc_to pm_to an_to cd_to ct_to), sl_to⟩)
    (cc_to : PySem.W.codeIn K cd_to "_text_of" = true)
    (k_to : PySem.W.keepIn K (.ref f_to) = true)
    (a_lb : PySem.W.nsIn K mainGlobals "_lines_behind" = some (some (.ref f_lb)))
    (l_lb : K.lookup f_lb = some ⟨oc_lb, od_lb, .func (PySem.W.fnOf "_lines_behind" "_lines_behind" (defArgs s_lines_behind) (defBody s_lines_behind) (defScope s_lines_behind) .none kV_lb dc_lb pm_lb an_lb cd_lb ct_lb), sl_lb⟩)
    (cc_lb : PySem.W.codeIn K cd_lb "_lines_behind" = true)
    (k_lb : PySem.W.keepIn K (.ref f_lb) = true)
    (a_ls : PySem.W.nsIn K mainGlobals "_law_state" = some (some (.ref f_ls)))
    (l_ls : K.lookup f_ls = some ⟨oc_ls, od_ls, .func (PySem.W.fnOf "_law_state" "_law_state" (defArgs s_law_state) (defBody s_law_state) (defScope s_law_state) .none kV_ls dc_ls pm_ls an_ls cd_ls ct_ls), sl_ls⟩)
    (cc_ls : PySem.W.codeIn K cd_ls "_law_state" = true)
    (k_ls : PySem.W.keepIn K (.ref f_ls) = true)
    (a_lt : PySem.W.nsIn K mainGlobals "_law_take" = some (some (.ref f_lt)))
    (l_lt : K.lookup f_lt = some ⟨oc_lt, od_lt, .func (PySem.W.fnOf "_law_take" "_law_take" (defArgs s_law_take) (defBody s_law_take) (defScope s_law_take) .none kV_lt dc_lt pm_lt an_lt cd_lt ct_lt), sl_lt⟩)
    (cc_lt : PySem.W.codeIn K cd_lt "_law_take" = true)
    (k_lt : PySem.W.keepIn K (.ref f_lt) = true)
    (a_lx : PySem.W.nsIn K mainGlobals "_law_text" = some (some (.ref f_lx)))
    (l_lx : K.lookup f_lx = some ⟨oc_lx, od_lx, .func (PySem.W.fnOf "_law_text" "_law_text" (defArgs s_law_text) (defBody s_law_text) (defScope s_law_text) .none kV_lx dc_lx pm_lx an_lx cd_lx ct_lx), sl_lx⟩)
    (cc_lx : PySem.W.codeIn K cd_lx "_law_text" = true)
    (k_lx : PySem.W.keepIn K (.ref f_lx) = true)
    (a_lk : PySem.W.nsIn K mainGlobals "_law_pick" = some (some (.ref f_lk)))
    (l_lk : K.lookup f_lk = some ⟨oc_lk, od_lk, .func (PySem.W.fnOf "_law_pick" "_law_pick" (defArgs s_law_pick) (defBody s_law_pick) (defScope s_law_pick) .none kV_lk dc_lk pm_lk an_lk cd_lk ct_lk), sl_lk⟩)
    (cc_lk : PySem.W.codeIn K cd_lk "_law_pick" = true)
    (k_lk : PySem.W.keepIn K (.ref f_lk) = true)
    (a_lf : PySem.W.nsIn K mainGlobals "_law_fill" = some (some (.ref f_lf)))
    (l_lf : K.lookup f_lf = some ⟨oc_lf, od_lf, .func (PySem.W.fnOf "_law_fill" "_law_fill" (defArgs s_law_fill) (defBody s_law_fill) (defScope s_law_fill) .none kV_lf dc_lf pm_lf an_lf cd_lf ct_lf), sl_lf⟩)
    (cc_lf : PySem.W.codeIn K cd_lf "_law_fill" = true)
    (k_lf : PySem.W.keepIn K (.ref f_lf) = true)
    (a_lr : PySem.W.nsIn K mainGlobals "_law_refs" = some (some (.ref f_lr)))
    (l_lr : K.lookup f_lr = some ⟨oc_lr, od_lr, .func (PySem.W.fnOf "_law_refs" "_law_refs" (defArgs s_law_refs) (defBody s_law_refs) (defScope s_law_refs) .none kV_lr dc_lr pm_lr an_lr cd_lr ct_lr), sl_lr⟩)
    (cc_lr : PySem.W.codeIn K cd_lr "_law_refs" = true)
    (k_lr : PySem.W.keepIn K (.ref f_lr) = true)
    (a_lh : PySem.W.nsIn K mainGlobals "_law_whole" = some (some (.ref f_lh)))
    (l_lh : K.lookup f_lh = some ⟨oc_lh, od_lh, .func (PySem.W.fnOf "_law_whole" "_law_whole" (defArgs s_law_whole) (defBody s_law_whole) (defScope s_law_whole) .none kV_lh dc_lh pm_lh an_lh cd_lh ct_lh), sl_lh⟩)
    (cc_lh : PySem.W.codeIn K cd_lh "_law_whole" = true)
    (k_lh : PySem.W.keepIn K (.ref f_lh) = true)
    (a_lc : PySem.W.nsIn K mainGlobals "_law_closure" = some (some (.ref f_lc)))
    (l_lc : K.lookup f_lc = some ⟨oc_lc, od_lc, .func (PySem.W.fnOf "_law_closure" "_law_closure" (defArgs s_law_closure) (defBody s_law_closure) (defScope s_law_closure) .none kV_lc dc_lc pm_lc an_lc cd_lc ct_lc), sl_lc⟩)
    (cc_lc : PySem.W.codeIn K cd_lc "_law_closure" = true)
    (k_lc : PySem.W.keepIn K (.ref f_lc) = true)
    (a_lw : PySem.W.nsIn K mainGlobals "law" = some (some (.ref f_lw)))
    (l_lw : K.lookup f_lw = some ⟨oc_lw, od_lw, .func (PySem.W.fnOf "law" "law" (defArgs s_law) (defBody s_law) (defScope s_law) .none kV_lw dc_lw pm_lw an_lw cd_lw ct_lw), sl_lw⟩)
    (cc_lw : PySem.W.codeIn K cd_lw "law" = true)
    (k_lw : PySem.W.keepIn K (.ref f_lw) = true)
    (a_si : PySem.W.findIn K (.ref cU) "__init__" = some (some (.ref f_si)))
    (i_si : PySem.W.isFn K (.ref f_si) = true)
    (l_si : K.lookup f_si = some ⟨oc_si, od_si, .func (PySem.W.fnOf "__init__" "Store.__init__" (defArgs s_Store___init) (defBody s_Store___init) (defScope s_Store___init) .none kV_si dc_si pm_si an_si cd_si ct_si), sl_si⟩)
    (cc_si : PySem.W.codeIn K cd_si "Store.__init__" = true)
    (k_si : PySem.W.keepIn K (.ref f_si) = true)
    (a_sk : PySem.W.findIn K (.ref cU) "keep" = some (some (.ref f_sk)))
    (i_sk : PySem.W.isFn K (.ref f_sk) = true)
    (l_sk : K.lookup f_sk = some ⟨oc_sk, od_sk, .func (PySem.W.fnOf "keep" "Store.keep" (defArgs s_Store_keep) (defBody s_Store_keep) (defScope s_Store_keep) .none kV_sk dc_sk pm_sk an_sk cd_sk ct_sk), sl_sk⟩)
    (cc_sk : PySem.W.codeIn K cd_sk "Store.keep" = true)
    (k_sk : PySem.W.keepIn K (.ref f_sk) = true)
    (a_sb : PySem.W.findIn K (.ref cU) "blob" = some (some (.ref f_sb)))
    (i_sb : PySem.W.isFn K (.ref f_sb) = true)
    (l_sb : K.lookup f_sb = some ⟨oc_sb, od_sb, .func (PySem.W.fnOf "blob" "Store.blob" (defArgs s_Store_blob) (defBody s_Store_blob) (defScope s_Store_blob) .none kV_sb dc_sb pm_sb an_sb cd_sb ct_sb), sl_sb⟩)
    (cc_sb : PySem.W.codeIn K cd_sb "Store.blob" = true)
    (k_sb : PySem.W.keepIn K (.ref f_sb) = true)
    (a_sr : PySem.W.findIn K (.ref cU) "remove_blob" = some (some (.ref f_sr)))
    (i_sr : PySem.W.isFn K (.ref f_sr) = true)
    (l_sr : K.lookup f_sr = some ⟨oc_sr, od_sr, .func (PySem.W.fnOf "remove_blob" "Store.remove_blob" (defArgs s_Store_remove_blob) (defBody s_Store_remove_blob) (defScope s_Store_remove_blob) .none kV_sr dc_sr pm_sr an_sr cd_sr ct_sr), sl_sr⟩)
    (cc_sr : PySem.W.codeIn K cd_sr "Store.remove_blob" = true)
    (k_sr : PySem.W.keepIn K (.ref f_sr) = true)
    (a_sd : PySem.W.findIn K (.ref cU) "addresses" = some (some (.ref f_sd)))
    (i_sd : PySem.W.isFn K (.ref f_sd) = true)
    (l_sd : K.lookup f_sd = some ⟨oc_sd, od_sd, .func (PySem.W.fnOf "addresses" "Store.addresses" (defArgs s_Store_addresses) (defBody s_Store_addresses) (defScope s_Store_addresses) .none kV_sd dc_sd pm_sd an_sd cd_sd ct_sd), sl_sd⟩)
    (cc_sd : PySem.W.codeIn K cd_sd "Store.addresses" = true)
    (k_sd : PySem.W.keepIn K (.ref f_sd) = true)
    (a_sl : PySem.W.findIn K (.ref cU) "below" = some (some (.ref f_sl)))
    (i_sl : PySem.W.isFn K (.ref f_sl) = true)
    (l_sl : K.lookup f_sl = some ⟨oc_sl, od_sl, .func (PySem.W.fnOf "below" "Store.below" (defArgs s_Store_below) (defBody s_Store_below) (defScope s_Store_below) .none kV_sl dc_sl pm_sl an_sl cd_sl ct_sl), sl_sl⟩)
    (cc_sl : PySem.W.codeIn K cd_sl "Store.below" = true)
    (k_sl : PySem.W.keepIn K (.ref f_sl) = true)
    (a_sc : PySem.W.findIn K (.ref cU) "closure" = some (some (.ref f_sc)))
    (i_sc : PySem.W.isFn K (.ref f_sc) = true)
    (l_sc : K.lookup f_sc = some ⟨oc_sc, od_sc, .func (PySem.W.fnOf "closure" "Store.closure" (defArgs s_Store_closure) (defBody s_Store_closure) (defScope s_Store_closure) .none kV_sc dc_sc pm_sc an_sc cd_sc ct_sc), sl_sc⟩)
    (cc_sc : PySem.W.codeIn K cd_sc "Store.closure" = true)
    (k_sc : PySem.W.keepIn K (.ref f_sc) = true)
    (a_so : PySem.W.findIn K (.ref cU) "is_whole_of" = some (some (.ref f_so)))
    (i_so : PySem.W.isFn K (.ref f_so) = true)
    (l_so : K.lookup f_so = some ⟨oc_so, od_so, .func (PySem.W.fnOf "is_whole_of" "Store.is_whole_of" (defArgs s_Store__is_whole_of) (defBody s_Store__is_whole_of) (defScope s_Store__is_whole_of) .none kV_so dc_so pm_so an_so cd_so ct_so), sl_so⟩)
    (cc_so : PySem.W.codeIn K cd_so "Store.is_whole_of" = true)
    (k_so : PySem.W.keepIn K (.ref f_so) = true)
    (a_sg : PySem.W.findIn K (.ref cU) "_gather" = some (some (.ref f_sg)))
    (i_sg : PySem.W.isFn K (.ref f_sg) = true)
    (l_sg : K.lookup f_sg = some ⟨oc_sg, od_sg, .func (PySem.W.fnOf "_gather" "Store._gather" (defArgs s_Store__gather) (defBody s_Store__gather) (defScope s_Store__gather) .none kV_sg dc_sg pm_sg an_sg cd_sg ct_sg), sl_sg⟩)
    (cc_sg : PySem.W.codeIn K cd_sg "Store._gather" = true)
    (k_sg : PySem.W.keepIn K (.ref f_sg) = true)
    (a_sw : PySem.W.findIn K (.ref cU) "is_whole" = some (some (.ref f_sw)))
    (i_sw : PySem.W.isFn K (.ref f_sw) = true)
    (l_sw : K.lookup f_sw = some ⟨oc_sw, od_sw, .func (PySem.W.fnOf "is_whole" "Store.is_whole" (defArgs s_Store_is_whole) (defBody s_Store_is_whole) (defScope s_Store_is_whole) .none kV_sw dc_sw pm_sw an_sw (.ref c_sw) ct_sw), sl_sw⟩)
    (cc_sw : PySem.W.codeIn K (.ref c_sw) "Store.is_whole" = true)
    (k_sw : PySem.W.keepIn K (.ref f_sw) = true)
    (z0 : PySem.W.nsIn K mainGlobals "len" = some none)
    (z1 : PySem.W.nsIn K mainGlobals "int" = some none)
    (z2 : PySem.W.nsIn K mainGlobals "abs" = some none)
    (z3 : PySem.W.nsIn K mainGlobals "all" = some none)
    (z4 : PySem.W.nsIn K mainGlobals "range" = some none)
    (z5 : PySem.W.nsIn K mainGlobals "isinstance" = some none)
    (z6 : PySem.W.nsIn K mainGlobals "str" = some none)
    (z7 : PySem.W.nsIn K mainGlobals "bool" = some none)
    (z8 : PySem.W.nsIn K mainGlobals "list" = some none)
    (z9 : PySem.W.nsIn K mainGlobals "enumerate" = some none)
    (z10 : PySem.W.nsIn K mainGlobals "super" = some none)
    (z11 : PySem.W.nsIn K mainGlobals "ValueError" = some none)
    (z12 : PySem.W.nsIn K mainGlobals "ord" = some none)
    (z13 : PySem.W.nsIn K mainGlobals "repr" = some none)
    (z14 : PySem.W.nsIn K mainGlobals "sorted" = some none)
    (v0 : PySem.W.nsIn K mainGlobals "_FACTOR" = some (some (.int 257 t0)))
    (v1 : PySem.W.nsIn K mainGlobals "_DIGITS" = some (some (.str "0123456789abcdef" t1)))
    (v2 : PySem.W.nsIn K mainGlobals "_LENGTH" = some (some (.int 16 t2)))
    (v3 : PySem.W.nsIn K mainGlobals "_IMAGE" = some (some (.str "image" t3)))
    (v4 : PySem.W.nsIn K mainGlobals "_BUNDLE" = some (some (.str "bundle" t4)))
    (v5 : PySem.W.nsIn K mainGlobals "_MOST_LINES" = some (some (.int 50 t5)))
    (v6 : PySem.W.nsIn K mainGlobals "_LETTERS" = some (some (.str "abcdefghijklmnopqrstuvwxyz" t6)))
    (v7 : PySem.W.nsIn K mainGlobals "_LONGEST_PLATFORM" = some (some (.int 10 t7)))
    (gM : PySem.W.nsIn K mainGlobals "Malformed" = some (some (.ref cM)))
    (gR : PySem.W.nsIn K mainGlobals "Refused" = some (some (.ref cR)))
    (xM : K.lookup cM = some (excClassObj nm q cM N bs [.ref cR, .type "ValueError", .type "Exception", .type "BaseException", .type "object"] true sn sub ab col dd m0 m1 m2 m3 m5 "ValueError.__new__"))
    (sa : PySem.W.findIn K (.ref cM) "__setattr__" = some (some (.builtin "object.__setattr__")))
    (nL : PySem.W.findIn K (.ref cM) "line" = some none)
    (a1 : PySem.W.findIn K (.ref cM) "__init__" = some (some (.ref f1)))
    (t1f : PySem.W.typeIn K (.ref f1) = some (.type "function"))
    (l1 : K.lookup f1 = some ⟨oc1, od1, .func (PySem.W.ksFn "__init__" "Malformed.__init__" (defArgs s_init) (defBody s_init) (defScope s_init) .none kV1 dc1 pm1 an1 (.ref cda) ct1 cc), sl1⟩)
    (c1 : PySem.W.codeIn K (.ref cda) "Malformed.__init__" = true)
    (xc : K.lookup cc = some ⟨ccl, ccd, .cell (some (.ref cM)), ccs⟩)
    (xd : K.lookup cda = some ⟨dcl, dcd, .fields vs, dcs⟩)
    (xe : vs[2]? = some (.str file tf))
    (xf : ((l.prog.main.file : Str) == file) = true)
    (tp : (l.prog.main.scope.names.lookup ("super" : Str)).isSome = false)
    (op : PySem.W.nsIn K cStatics "thirdparty.any" = some none)
    (ow : PySem.W.mroIn K cM (.ref cM) = some true)
    (su : PySem.W.ks_superIn K cM cM "__init__" = some (some (.builtin "ValueError.__init__")))
    (sv : PySem.W.subIn K (.ref cM) (.type "ValueError") = some true)
    (kC : PySem.W.keepIn K (.ref cM) = true)
    (eC : PySem.W.subIn K (.ref cM) (.type "BaseException") = some true)
    (tC : PySem.W.typeIn K (.ref cM) = some (.type "type"))
    (aKD : PySem.W.nsIn K mainGlobals "KINDS" = some (some (.ref kd)))
    (lKD : K.lookup kd = some ⟨.type "tuple", none, .seq #[.str "layer" u1, .str "image" u2, .str "bundle" u3] kn, ks⟩)
    (aBE : PySem.W.nsIn K mainGlobals "BELOW" = some (some (.ref bd)))
    (lBE : K.lookup bd = some ⟨.type "dict", none, .dict eb nb, #[]⟩)
    (vBE1 : PySem.W.nsIn K bd "image" = some (some (.str "layer" w1)))
    (vBE2 : PySem.W.nsIn K bd "bundle" = some (some (.str "image" w2)))
    (g_cU : PySem.W.nsIn K mainGlobals "Store" = some (some (.ref cU)))
    (pg_cU : PySem.W.plainGet K cU Str.empty = true)
    (hd_cU : PySem.W.hasDictIn K cU = true)
    (po_cU : PySem.W.plainOver K cU = true)
    (sa_cU : PySem.W.findIn K (.ref cU) "__setattr__" = some (some (.builtin "object.__setattr__")))
    (mk_cU : PySem.W.makesIn K cU = true)
    (kc_cU : PySem.W.keepIn K (.ref cU) = true)
    (nB : PySem.W.findIn K (.ref cU) "_blobs" = some none)
    (kBE : PySem.W.KeysLit w.params eb.toList) :
    LamX.LawAtS l w K CX0 25 63 "script" mg fa h := by
  have e := hfa.symm.trans (PySem.W.mg_of X G a_lw)
  cases e
  have T : Tx K mg cM cR cU := ⟨PySem.W.mg_none_of X G z0, PySem.W.mg_none_of X G z1, PySem.W.mg_none_of X G z2, PySem.W.mg_none_of X G z3, PySem.W.mg_none_of X G z4, PySem.W.mg_none_of X G z5, PySem.W.mg_none_of X G z6, PySem.W.mg_none_of X G z7, PySem.W.mg_none_of X G z8, PySem.W.mg_none_of X G z9, PySem.W.mg_none_of X G z10, PySem.W.mg_none_of X G z11, PySem.W.mg_of X G gM, PySem.W.mg_of X G gR, PySem.W.mg_of X G g_cU, ⟨pg_cU, hd_cU, po_cU, sa_cU⟩, nB, PySem.W.mg_none_of X G z12, PySem.W.mg_none_of X G z13, PySem.W.mg_none_of X G z14,
    ⟨kd, PySem.W.mg_of X G aKD, _, _, _, lKD, rfl, rfl, rfl, by show 3 ≤ sizeLine; decide, .cons ⟨_, rfl⟩ (.cons ⟨_, rfl⟩ (.cons ⟨_, rfl⟩ .nil))⟩, ⟨_, PySem.W.mg_of X G v0⟩, cMo, ⟨_, PySem.W.mg_of X G v1⟩, ⟨_, PySem.W.mg_of X G v2⟩, ⟨_, PySem.W.mg_of X G v3⟩, ⟨_, PySem.W.mg_of X G v4⟩, ⟨_, PySem.W.mg_of X G v5⟩, ⟨_, PySem.W.mg_of X G v6⟩, ⟨_, PySem.W.mg_of X G v7⟩⟩
  have O : OexC K cM := ⟨⟨_, _, _, _, _, _, _, _, _, _, _, _, _, _, _, xM, by rfl⟩, sa, eC, tC, kC⟩
  have S : SupAt l.prog K cM cc cda := ⟨O, ⟨_, _, _, xc⟩, ⟨_, _, _, _, _, _, xd, xe, xf⟩, tp, op, ow, su, sv⟩
  have IA : InitAt l.prog K cM f1 cc cda _ := ⟨S, ⟨_, _, _, _, _, _, _, _, rfl, l1, c1⟩, nL⟩
  have bI : Binds K (PySem.W.ksFn "__init__" "Malformed.__init__" (defArgs s_init) (defBody s_init) (defScope s_init) .none kV1 dc1 pm1 an1 (.ref cda) ct1 cc) P_init [] := .all fun us hl => match us, hl with | [_, _], _ => rfl
  have MA : MalAt l.prog K mg cM f1 cc cda _ := ⟨IA, a1, t1f, bI⟩
  have bel : BelAt K w mg := ⟨bd, PySem.W.mg_of X G aBE, ⟨_, _, _, lBE, kBE, vBE1, ⟨_, rfl⟩⟩, ⟨_, _, _, lBE, kBE, vBE2, ⟨_, rfl⟩⟩⟩
  have DI : DefC K mg "is_address" s_is_address P_is_address f_ia _ c_ia := ⟨⟨⟨_, _, _, _, _, _, _, _, rfl, l_ia, cc_ia⟩, k_ia⟩, PySem.W.mg_of X G a_ia, ((fun_mk (st := s_is_address) l_ia cc_ia k_ia).binds fun _ _ _ _ _ _ us hl => match us, hl with | [_], _ => rfl)⟩
  have DL : DefC K mg "_is_platform" s_is_platform P_is_platform f_ip _ c_ip := ⟨⟨⟨_, _, _, _, _, _, _, _, rfl, l_ip, cc_ip⟩, k_ip⟩, PySem.W.mg_of X G a_ip, ((fun_mk (st := s_is_platform) l_ip cc_ip k_ip).binds fun _ _ _ _ _ _ us hl => match us, hl with | [_], _ => rfl)⟩
  have DB : DefAt K mg "_lines_behind" s_lines_behind P_lines_behind f_lb _ := (⟨(fun_mk (st := s_lines_behind) l_lb cc_lb k_lb), PySem.W.mg_of X G a_lb, ((fun_mk (st := s_lines_behind) l_lb cc_lb k_lb).binds fun _ _ _ _ _ _ us hl => match us, hl with | [_, _], _ => rfl)⟩ : DefAt K mg _ _ _ _ _)
  have DT : DefAt K mg "_text_of" s_text_of P_text_of f_to _ := (⟨(fun_mk (st := s_text_of) l_to cc_to k_to), PySem.W.mg_of X G a_to, ((fun_mk (st := s_text_of) l_to cc_to k_to).binds fun _ _ _ _ _ _ us hl => match us, hl with | [_, _], _ => rfl)⟩ : DefAt K mg _ _ _ _ _)
  refine ⟨PySem.W.fnOf "law" "law" (defArgs s_law) (defBody s_law) (defScope s_law) .none kV_lw dc_lw pm_lw an_lw cd_lw ct_lw, [(c_ia, B1), (c_ip, B2), (c_sw, B3)], sp_law K B1 B2 B3, ?_, ?_, ?_, ?_, ?_, ?_⟩
  · intro p hp
    rcases List.mem_cons.mp hp with e | hp
    · rw [e]; exact tb1.2
    · rcases List.mem_cons.mp hp with e | hp
      · rw [e]; exact tb2.2
      · rw [List.mem_singleton.mp hp]; exact tb3.2
  · intro p hp
    rcases List.mem_cons.mp hp with e | hp
    · rw [e]; exact nB1
    · rcases List.mem_cons.mp hp with e | hp
      · rw [e]; exact nB2
      · rw [List.mem_singleton.mp hp]; exact nB3
  · intro p hp
    rcases List.mem_cons.mp hp with e | hp
    · rw [e]; exact tb1.1
    · rcases List.mem_cons.mp hp with e | hp
      · rw [e]; exact tb2.1
      · rw [List.mem_singleton.mp hp]; exact tb3.1
  · exact fun s v => .of_eq rfl
  · intro H a ns hl _ hH hS
    exact ⟨a, ns, rfl, hS, hl, ⟨#[], hH _ List.mem_cons_self, True.intro⟩, ⟨#[], hH _ (List.mem_cons_of_mem _ List.mem_cons_self), True.intro⟩, ⟨#[], hH _ (List.mem_cons_of_mem _ (List.mem_cons_of_mem _ (List.mem_singleton.mpr rfl))), True.intro⟩, fun _ => rfl⟩
  · intro base _ _ hT
    have TI : TabB base mg c_ia B1 := (let t := hT _ List.mem_cons_self; ⟨t.code, t.bm, t.gP⟩)
    have TL : TabB base mg c_ip B2 := (let t := hT _ (List.mem_cons_of_mem _ List.mem_cons_self); ⟨t.code, t.bm, t.gP⟩)
    have TW : TabB base mg c_sw B3 := (let t := hT _ (List.mem_cons_of_mem _ (List.mem_cons_of_mem _ (List.mem_singleton.mpr rfl))); ⟨t.code, t.bm, t.gP⟩)
    have MO : Mods l.prog w K mg base cM B1 B2 f_ri f_rb _ _ := ⟨ok_read_image (fun_mk (st := s_read_image) l_ri cc_ri k_ri) T MA DB DI TI, PySem.W.mg_of X G a_ri, k_ri, ((fun_mk (st := s_read_image) l_ri cc_ri k_ri).binds fun _ _ _ _ _ _ us hl => match us, hl with | [_], _ => rfl), ok_read_bundle (fun_mk (st := s_read_bundle) l_rb cc_rb k_rb) T MA DB DI TI DL TL, PySem.W.mg_of X G a_rb, k_rb, ((fun_mk (st := s_read_bundle) l_rb cc_rb k_rb).binds fun _ _ _ _ _ _ us hl => match us, hl with | [_], _ => rfl)⟩
    have C_rf : Cal l.prog w K mg base CX0 5 "references" P_references (spRefs B1 B2) := ⟨_, _, ok_references (fun_mk (st := s_references) l_rf cc_rf k_rf) T MO, PySem.W.mg_of X G a_rf, k_rf, ((fun_mk (st := s_references) l_rf cc_rf k_rf).binds fun _ _ _ _ _ _ us hl => match us, hl with | [_, _], _ => rfl)⟩
    have C_ad : Cal l.prog w K mg base CX0 1 "address_of" P_address_of spAddr := ⟨_, _, ok_address_of (fun_mk (st := s_address_of) l_ad cc_ad k_ad) T, PySem.W.mg_of X G a_ad, k_ad, ((fun_mk (st := s_address_of) l_ad cc_ad k_ad).binds fun _ _ _ _ _ _ us hl => match us, hl with | [_, _], _ => rfl)⟩
    have C_it : Cal l.prog w K mg base CX0 2 "image_text" P_image_text (spImage K) := ⟨_, _, ok_image_text (fun_mk (st := s_image_text) l_it cc_it k_it) T DT, PySem.W.mg_of X G a_it, k_it, ((fun_mk (st := s_image_text) l_it cc_it k_it).binds fun _ _ _ _ _ _ us hl => match us, hl with | [_], _ => rfl)⟩
    have C_bt : Cal l.prog w K mg base CX0 2 "bundle_text" P_bundle_text (spBundle K) := ⟨_, _, ok_bundle_text (fun_mk (st := s_bundle_text) l_bt cc_bt k_bt) T DT, PySem.W.mg_of X G a_bt, k_bt, ((fun_mk (st := s_bundle_text) l_bt cc_bt k_bt).binds fun _ _ _ _ _ _ us hl => match us, hl with | [_], _ => rfl)⟩
    have C_ls : Cal l.prog w K mg base CX0 1 "_law_state" P_law_state (spState K) := ⟨_, _, ok_state (fun_mk (st := s_law_state) l_ls cc_ls k_ls) T, PySem.W.mg_of X G a_ls, k_ls, ((fun_mk (st := s_law_state) l_ls cc_ls k_ls).binds fun _ _ _ _ _ _ us hl => match us, hl with | [_], _ => rfl)⟩
    have C_lt : Cal l.prog w K mg base CX0 1 "_law_take" P_law_take spTake := ⟨_, _, ok_take (fun_mk (st := s_law_take) l_lt cc_lt k_lt) T.len T.int, PySem.W.mg_of X G a_lt, k_lt, ((fun_mk (st := s_law_take) l_lt cc_lt k_lt).binds fun _ _ _ _ _ _ us hl => match us, hl with | [_, _], _ => rfl)⟩
    have C_lx : Cal l.prog w K mg base CX0 2 "_law_text" P_law_text spText := ⟨_, _, ok_law_text (fun_mk (st := s_law_text) l_lx cc_lx k_lx) T C_lt, PySem.W.mg_of X G a_lx, k_lx, ((fun_mk (st := s_law_text) l_lx cc_lx k_lx).binds fun _ _ _ _ _ _ us hl => match us, hl with | [_, _], _ => rfl)⟩
    have C_lk : Cal l.prog w K mg base CX0 2 "_law_pick" P_law_pick spPick := ⟨_, _, ok_law_pick (fun_mk (st := s_law_pick) l_lk cc_lk k_lk) T C_lt, PySem.W.mg_of X G a_lk, k_lk, ((fun_mk (st := s_law_pick) l_lk cc_lk k_lk).binds fun _ _ _ _ _ _ us hl => match us, hl with | [_, _], _ => rfl)⟩
    have C_lr : Cal l.prog w K mg base CX0 1 "_law_refs" P_law_refs sp_lr := ⟨_, _, ok_law_refs (fun_mk (st := s_law_refs) l_lr cc_lr k_lr) T, PySem.W.mg_of X G a_lr, k_lr, ((fun_mk (st := s_law_refs) l_lr cc_lr k_lr).binds fun _ _ _ _ _ _ us hl => match us, hl with | [_, _], _ => rfl)⟩
    have K_s : CalK l.prog w K mg base CX0 1 "Store" cU P_Store___init (sp_Store___init cU) := ⟨_, _, ok_Store___init (fun_mk (st := s_Store___init) l_si cc_si k_si) T, ⟨mk_cU, a_si, i_si, kc_cU⟩, T.STO, ((fun_mk (st := s_Store___init) l_si cc_si k_si).binds fun _ _ _ _ _ _ us hl => match us, hl with | [_], _ => rfl)⟩
    have M_k : CalM l.prog w K mg base CX0 2 cU "keep" P_Store_keep (sp_Store_keep cU) := ⟨_, _, ok_Store_keep (fun_mk (st := s_Store_keep) l_sk cc_sk k_sk) T C_ad, T.sC, ⟨a_sk, i_sk, k_sk⟩, ((fun_mk (st := s_Store_keep) l_sk cc_sk k_sk).binds fun _ _ _ _ _ _ us hl => match us, hl with | [_, _, _], _ => rfl)⟩
    have M_b : CalM l.prog w K mg base CX0 1 cU "blob" P_Store_blob (sp_Store_blob cU) := ⟨_, _, ok_Store_blob (fun_mk (st := s_Store_blob) l_sb cc_sb k_sb) T, T.sC, ⟨a_sb, i_sb, k_sb⟩, ((fun_mk (st := s_Store_blob) l_sb cc_sb k_sb).binds fun _ _ _ _ _ _ us hl => match us, hl with | [_, _], _ => rfl)⟩
    have M_r : CalM l.prog w K mg base CX0 1 cU "remove_blob" P_Store_remove_blob (sp_Store_remove_blob cU) := ⟨_, _, ok_Store_remove_blob (fun_mk (st := s_Store_remove_blob) l_sr cc_sr k_sr) T, T.sC, ⟨a_sr, i_sr, k_sr⟩, ((fun_mk (st := s_Store_remove_blob) l_sr cc_sr k_sr).binds fun _ _ _ _ _ _ us hl => match us, hl with | [_, _], _ => rfl)⟩
    have M_d : CalM l.prog w K mg base CX0 1 cU "addresses" P_Store_addresses (sp_Store_addresses cU) := ⟨_, _, ok_Store_addresses (fun_mk (st := s_Store_addresses) l_sd cc_sd k_sd) T, T.sC, ⟨a_sd, i_sd, k_sd⟩, ((fun_mk (st := s_Store_addresses) l_sd cc_sd k_sd).binds fun _ _ _ _ _ _ us hl => match us, hl with | [_], _ => rfl)⟩
    have M_l : CalM l.prog w K mg base CX0 6 cU "below" P_Store_below (sp_Store_below cU B1 B2) := ⟨_, _, ok_Store_below (fun_mk (st := s_Store_below) l_sl cc_sl k_sl) T C_rf, T.sC, ⟨a_sl, i_sl, k_sl⟩, ((fun_mk (st := s_Store_below) l_sl cc_sl k_sl).binds fun _ _ _ _ _ _ us hl => match us, hl with | [_, _], _ => rfl)⟩
    have FW : FunC K "is_whole" "Store.is_whole" s_Store_is_whole f_sw _ c_sw := ⟨⟨_, _, _, _, _, _, _, _, rfl, l_sw, cc_sw⟩, k_sw⟩
    have O0 : CalM l.prog w K mg base CX0 0 cU "is_whole_of" P_Store__is_whole_of (sp_iwo cU B1 B2 B3 0) := ⟨_, _, vac_fn fun vs H Q E h => by (obtain ⟨_, _, _, _, _, _, _, h, _⟩ := h; exact absurd h (Nat.not_lt_zero _)), T.sC, ⟨a_so, i_so, k_so⟩, ((fun_mk (st := s_Store__is_whole_of) l_so cc_so k_so).binds fun _ _ _ _ _ _ us hl => match us, hl with | [_, _, _], _ => rfl)⟩
    have W0 : CalM l.prog w K mg base CX0 7 cU "is_whole" P_Store_is_whole (sp_isw cU B1 B2 B3 0) := ⟨_, _, ok_Store_is_whole FW T TW bel M_l O0, T.sC, ⟨a_sw, i_sw, k_sw⟩, ((fun_mk (st := s_Store_is_whole) l_sw cc_sw k_sw).binds fun _ _ _ _ _ _ us hl => match us, hl with | [_, _], _ => rfl)⟩
    have O1 : CalM l.prog w K mg base CX0 8 cU "is_whole_of" P_Store__is_whole_of (sp_iwo cU B1 B2 B3 1) := ⟨_, _, ok_Store__is_whole_of (fun_mk (st := s_Store__is_whole_of) l_so cc_so k_so) T W0, T.sC, ⟨a_so, i_so, k_so⟩, ((fun_mk (st := s_Store__is_whole_of) l_so cc_so k_so).binds fun _ _ _ _ _ _ us hl => match us, hl with | [_, _, _], _ => rfl)⟩
    have W1 : CalM l.prog w K mg base CX0 15 cU "is_whole" P_Store_is_whole (sp_isw cU B1 B2 B3 1) := ⟨_, _, ok_Store_is_whole FW T TW bel M_l O1, T.sC, ⟨a_sw, i_sw, k_sw⟩, ((fun_mk (st := s_Store_is_whole) l_sw cc_sw k_sw).binds fun _ _ _ _ _ _ us hl => match us, hl with | [_, _], _ => rfl)⟩
    have O2 : CalM l.prog w K mg base CX0 16 cU "is_whole_of" P_Store__is_whole_of (sp_iwo cU B1 B2 B3 2) := ⟨_, _, ok_Store__is_whole_of (fun_mk (st := s_Store__is_whole_of) l_so cc_so k_so) T W1, T.sC, ⟨a_so, i_so, k_so⟩, ((fun_mk (st := s_Store__is_whole_of) l_so cc_so k_so).binds fun _ _ _ _ _ _ us hl => match us, hl with | [_, _, _], _ => rfl)⟩
    have W2 : CalM l.prog w K mg base CX0 23 cU "is_whole" P_Store_is_whole (sp_isw cU B1 B2 B3 2) := ⟨_, _, ok_Store_is_whole FW T TW bel M_l O2, T.sC, ⟨a_sw, i_sw, k_sw⟩, ((fun_mk (st := s_Store_is_whole) l_sw cc_sw k_sw).binds fun _ _ _ _ _ _ us hl => match us, hl with | [_, _], _ => rfl)⟩
    have G0 : CalM l.prog w K mg base CX0 0 cU "_gather" P_Store__gather (sp_gather cU B1 B2 B3 0) := ⟨_, _, vac_fn fun vs H Q E h => by (obtain ⟨_, _, _, _, _, _, _, _, _, _, _, h, _⟩ := h; cases h), T.sC, ⟨a_sg, i_sg, k_sg⟩, ((fun_mk (st := s_Store__gather) l_sg cc_sg k_sg).binds fun _ _ _ _ _ _ us hl => match us, hl with | [_, _, _], _ => rfl)⟩
    have G1 : CalM l.prog w K mg base CX0 7 cU "_gather" P_Store__gather (sp_gather cU B1 B2 B3 1) := ⟨_, _, ok_Store__gather (fun_mk (st := s_Store__gather) l_sg cc_sg k_sg) T M_l G0, T.sC, ⟨a_sg, i_sg, k_sg⟩, ((fun_mk (st := s_Store__gather) l_sg cc_sg k_sg).binds fun _ _ _ _ _ _ us hl => match us, hl with | [_, _, _], _ => rfl)⟩
    have G2 : CalM l.prog w K mg base CX0 14 cU "_gather" P_Store__gather (sp_gather cU B1 B2 B3 2) := ⟨_, _, ok_Store__gather (fun_mk (st := s_Store__gather) l_sg cc_sg k_sg) T M_l G1, T.sC, ⟨a_sg, i_sg, k_sg⟩, ((fun_mk (st := s_Store__gather) l_sg cc_sg k_sg).binds fun _ _ _ _ _ _ us hl => match us, hl with | [_, _, _], _ => rfl)⟩
    have G3 : CalM l.prog w K mg base CX0 21 cU "_gather" P_Store__gather (sp_gather cU B1 B2 B3 3) := ⟨_, _, ok_Store__gather (fun_mk (st := s_Store__gather) l_sg cc_sg k_sg) T M_l G2, T.sC, ⟨a_sg, i_sg, k_sg⟩, ((fun_mk (st := s_Store__gather) l_sg cc_sg k_sg).binds fun _ _ _ _ _ _ us hl => match us, hl with | [_, _, _], _ => rfl)⟩
    have M_c : CalM l.prog w K mg base CX0 22 cU "closure" P_Store_closure (sp_closure cU B1 B2 B3) := ⟨_, _, ok_Store_closure (fun_mk (st := s_Store_closure) l_sc cc_sc k_sc) T G3, T.sC, ⟨a_sc, i_sc, k_sc⟩, ((fun_mk (st := s_Store_closure) l_sc cc_sc k_sc).binds fun _ _ _ _ _ _ us hl => match us, hl with | [_, _], _ => rfl)⟩
    have H0 : Cal l.prog w K mg base CX0 0 "_law_whole" P_law_whole (sp_lw 0) := ⟨_, _, vac_fn fun vs H Q E h => by (obtain ⟨_, _, _, _, _, _, h, _⟩ := h; exact absurd h (Nat.not_lt_zero _)), PySem.W.mg_of X G a_lh, k_lh, ((fun_mk (st := s_law_whole) l_lh cc_lh k_lh).binds fun _ _ _ _ _ _ us hl => match us, hl with | [_, _], _ => rfl)⟩
    have I0 : Cal l.prog w K mg base CX0 0 "_law_closure" P_law_closure (sp_lc 0) := ⟨_, _, vac_fn fun vs H Q E h => by (obtain ⟨_, _, _, _, _, _, _, h, _⟩ := h; cases h), PySem.W.mg_of X G a_lc, k_lc, ((fun_mk (st := s_law_closure) l_lc cc_lc k_lc).binds fun _ _ _ _ _ _ us hl => match us, hl with | [_, _], _ => rfl)⟩
    have H1 : Cal l.prog w K mg base CX0 2 "_law_whole" P_law_whole (sp_lw 1) := ⟨_, _, ok_law_whole (fun_mk (st := s_law_whole) l_lh cc_lh k_lh) T C_lr H0, PySem.W.mg_of X G a_lh, k_lh, ((fun_mk (st := s_law_whole) l_lh cc_lh k_lh).binds fun _ _ _ _ _ _ us hl => match us, hl with | [_, _], _ => rfl)⟩
    have I1 : Cal l.prog w K mg base CX0 2 "_law_closure" P_law_closure (sp_lc 1) := ⟨_, _, ok_law_closure (fun_mk (st := s_law_closure) l_lc cc_lc k_lc) T (by decide) C_lr I0, PySem.W.mg_of X G a_lc, k_lc, ((fun_mk (st := s_law_closure) l_lc cc_lc k_lc).binds fun _ _ _ _ _ _ us hl => match us, hl with | [_, _], _ => rfl)⟩
    have H2 : Cal l.prog w K mg base CX0 4 "_law_whole" P_law_whole (sp_lw 2) := ⟨_, _, ok_law_whole (fun_mk (st := s_law_whole) l_lh cc_lh k_lh) T C_lr H1, PySem.W.mg_of X G a_lh, k_lh, ((fun_mk (st := s_law_whole) l_lh cc_lh k_lh).binds fun _ _ _ _ _ _ us hl => match us, hl with | [_, _], _ => rfl)⟩
    have I2 : Cal l.prog w K mg base CX0 4 "_law_closure" P_law_closure (sp_lc 2) := ⟨_, _, ok_law_closure (fun_mk (st := s_law_closure) l_lc cc_lc k_lc) T (by decide) C_lr I1, PySem.W.mg_of X G a_lc, k_lc, ((fun_mk (st := s_law_closure) l_lc cc_lc k_lc).binds fun _ _ _ _ _ _ us hl => match us, hl with | [_, _], _ => rfl)⟩
    have H3 : Cal l.prog w K mg base CX0 6 "_law_whole" P_law_whole (sp_lw 3) := ⟨_, _, ok_law_whole (fun_mk (st := s_law_whole) l_lh cc_lh k_lh) T C_lr H2, PySem.W.mg_of X G a_lh, k_lh, ((fun_mk (st := s_law_whole) l_lh cc_lh k_lh).binds fun _ _ _ _ _ _ us hl => match us, hl with | [_, _], _ => rfl)⟩
    have I3 : Cal l.prog w K mg base CX0 6 "_law_closure" P_law_closure (sp_lc 3) := ⟨_, _, ok_law_closure (fun_mk (st := s_law_closure) l_lc cc_lc k_lc) T (by decide) C_lr I2, PySem.W.mg_of X G a_lc, k_lc, ((fun_mk (st := s_law_closure) l_lc cc_lc k_lc).binds fun _ _ _ _ _ _ us hl => match us, hl with | [_, _], _ => rfl)⟩
    have FC : FillC l.prog w K mg base cU := ⟨M_k, C_lk, C_lt, C_lx, C_ad, C_bt, C_it⟩
    have C_lf : Cal l.prog w K mg base CX0 3 "_law_fill" P_law_fill (sp_fill cU) := ⟨_, _, ok_law_fill (fun_mk (st := s_law_fill) l_lf cc_lf k_lf) T FC, PySem.W.mg_of X G a_lf, k_lf, ((fun_mk (st := s_law_fill) l_lf cc_lf k_lf).binds fun _ _ _ _ _ _ us hl => match us, hl with | [_, _, _], _ => rfl)⟩
    have LC : LawC l.prog w K mg base cU B1 B2 B3 := ⟨K_s, M_d, M_l, M_b, M_c, W2, M_r, I3, C_lf, C_lr, C_ls, C_lt, H3⟩
    exact ok_law (fun_mk (st := s_law) l_lw cc_lw k_lw) T LC
end LW
open PySem PySem.W PyProof.Rows
set_option maxHeartbeats 0 in
open_top LWhd for PySem.Challenge.rw_layerwharf_k03_whole_blobs
set_option maxHeartbeats 0 in
theorem PySem.Challenge.cw_layerwharf_k03_whole_blobs_holds : PySem.Challenge.rw_layerwharf_k03_whole_blobs.Holds := by
  w_on; o_law; o_head (PySem.W.kmHook LWhd.heap_39 [2, 3, 15, 16, 18, 19, 21, 22, 23, 25, 26, 28, 29, 30, 37, 38, 39, 40, 43, 46, 51, 52, 54, 55, 57, 58, 59, 60, 61, 64, 66, 67, 69, 70, 71, 74, 75, 76, 78, 79, 81, 82, 83, 85, 86, 88, 89, 90, 93, 94, 95, 98, 99, 100, 102, 103, 105, 106, 107, 109, 110, 112, 113, 114, 122, 124, 125, 127, 128, 129, 131, 132, 134, 135, 136, 138, 139, 141, 142, 143, 145, 146, 148, 149, 150, 152, 153, 155, 156, 157, 159, 160, 162, 163, 164, 166, 167, 169, 170, 171, 173, 174, 176, 177, 178, 180, 181, 183, 184, 185, 187, 188, 190, 191, 192, 193, 194, 195, 196, 199, 202, 203, 204, 206, 207, 209, 210, 216, 219, 220, 221, 223, 224, 226, 227, 228, 231, 232, 233, 236, 237, 238, 240, 241, 243, 244, 245, 248, 249, 250, 252, 253, 255, 256] (fun _ => by kernel_rfl) [165]); (case hw => w_witness2)
  k_fill
  refine LW.walk_gnd (l := PySem.Challenge.rw_layerwharf_k03_whole_blobs) (n := 63) (k := 25) (x := "script") (CX := fun _ => L2.CX0) rfl (by decide) rfl ⟨rfl, by decide, by decide⟩ (fun w h Y => PySem.W.km_in_of Y) ?F (fun _ _ _ _ _ h => h)
  case F =>
    intro w s0 mg mb fa h G Y KX hmg
    refine' LW.all_mk KX G.T.g hmg ?tb1 ?nB1 ?tb2 ?nB2 ?tb3 ?nB3 ?cMo ?a_ia ?l_ia ?cc_ia ?k_ia ?a_ip ?l_ip ?cc_ip ?k_ip ?a_ad ?l_ad ?cc_ad ?k_ad ?a_it ?l_it ?cc_it ?k_it ?a_bt ?l_bt ?cc_bt ?k_bt ?a_ri ?l_ri ?cc_ri ?k_ri ?a_rb ?l_rb ?cc_rb ?k_rb ?a_rf ?l_rf ?cc_rf ?k_rf ?a_to ?l_to ?cc_to ?k_to ?a_lb ?l_lb ?cc_lb ?k_lb ?a_ls ?l_ls ?cc_ls ?k_ls ?a_lt ?l_lt ?cc_lt ?k_lt ?a_lx ?l_lx ?cc_lx ?k_lx ?a_lk ?l_lk ?cc_lk ?k_lk ?a_lf ?l_lf ?cc_lf ?k_lf ?a_lr ?l_lr ?cc_lr ?k_lr ?a_lh ?l_lh ?cc_lh ?k_lh ?a_lc ?l_lc ?cc_lc ?k_lc ?a_lw ?l_lw ?cc_lw ?k_lw ?a_si ?i_si ?l_si ?cc_si ?k_si ?a_sk ?i_sk ?l_sk ?cc_sk ?k_sk ?a_sb ?i_sb ?l_sb ?cc_sb ?k_sb ?a_sr ?i_sr ?l_sr ?cc_sr ?k_sr ?a_sd ?i_sd ?l_sd ?cc_sd ?k_sd ?a_sl ?i_sl ?l_sl ?cc_sl ?k_sl ?a_sc ?i_sc ?l_sc ?cc_sc ?k_sc ?a_so ?i_so ?l_so ?cc_so ?k_so ?a_sg ?i_sg ?l_sg ?cc_sg ?k_sg ?a_sw ?i_sw ?l_sw ?cc_sw ?k_sw ?z0 ?z1 ?z2 ?z3 ?z4 ?z5 ?z6 ?z7 ?z8 ?z9 ?z10 ?z11 ?z12 ?z13 ?z14 ?v0 ?v1 ?v2 ?v3 ?v4 ?v5 ?v6 ?v7 ?gM ?gR ?xM ?sa ?nL ?a1 ?t1f ?l1 ?c1 ?xc ?xd ?xe ?xf ?tp ?op ?ow ?su ?sv ?kC ?eC ?tC ?aKD ?lKD ?aBE ?lBE ?vBE1 ?vBE2 ?g_cU ?pg_cU ?hd_cU ?po_cU ?sa_cU ?mk_cU ?kc_cU ?nB ?kBE
    (case a_ia => k_is)
    (case l_ia => k_is)
    (case cc_ia => k_is)
    (case k_ia => k_is)
    (case a_ip => k_is)
    (case l_ip => k_is)
    (case cc_ip => k_is)
    (case k_ip => k_is)
    (case a_ad => k_is)
    (case l_ad => k_is)
    (case cc_ad => k_is)
    (case k_ad => k_is)
    (case a_it => k_is)
    (case l_it => k_is)
    (case cc_it => k_is)
    (case k_it => k_is)
    (case a_bt => k_is)
    (case l_bt => k_is)
    (case cc_bt => k_is)
    (case k_bt => k_is)
    (case a_ri => k_is)
    (case l_ri => k_is)
    (case cc_ri => k_is)
    (case k_ri => k_is)
    (case a_rb => k_is)
    (case l_rb => k_is)
    (case cc_rb => k_is)
    (case k_rb => k_is)
    (case a_rf => k_is)
    (case l_rf => k_is)
    (case cc_rf => k_is)
    (case k_rf => k_is)
    (case a_to => k_is)
    (case l_to => k_is)
    (case cc_to => k_is)
    (case k_to => k_is)
    (case a_lb => k_is)
    (case l_lb => k_is)
    (case cc_lb => k_is)
    (case k_lb => k_is)
    (case a_ls => k_is)
    (case l_ls => k_is)
    (case cc_ls => k_is)
    (case k_ls => k_is)
    (case a_lt => k_is)
    (case l_lt => k_is)
    (case cc_lt => k_is)
    (case k_lt => k_is)
    (case a_lx => k_is)
    (case l_lx => k_is)
    (case cc_lx => k_is)
    (case k_lx => k_is)
    (case a_lk => k_is)
    (case l_lk => k_is)
    (case cc_lk => k_is)
    (case k_lk => k_is)
    (case a_lf => k_is)
    (case l_lf => k_is)
    (case cc_lf => k_is)
    (case k_lf => k_is)
    (case a_lr => k_is)
    (case l_lr => k_is)
    (case cc_lr => k_is)
    (case k_lr => k_is)
    (case a_lh => k_is)
    (case l_lh => k_is)
    (case cc_lh => k_is)
    (case k_lh => k_is)
    (case a_lc => k_is)
    (case l_lc => k_is)
    (case cc_lc => k_is)
    (case k_lc => k_is)
    (case a_lw => k_is)
    (case l_lw => k_is)
    (case cc_lw => k_is)
    (case k_lw => k_is)
    (case z0 => first | k_is | rfl)
    (case z1 => first | k_is | rfl)
    (case z2 => first | k_is | rfl)
    (case z3 => first | k_is | rfl)
    (case z4 => first | k_is | rfl)
    (case z5 => first | k_is | rfl)
    (case z6 => first | k_is | rfl)
    (case z7 => first | k_is | rfl)
    (case z8 => first | k_is | rfl)
    (case z9 => first | k_is | rfl)
    (case z10 => first | k_is | rfl)
    (case z11 => first | k_is | rfl)
    (case z12 => first | k_is | rfl)
    (case z13 => first | k_is | rfl)
    (case z14 => first | k_is | rfl)
    (case v0 => first | k_is | rfl)
    (case v1 => first | k_is | rfl)
    (case v2 => first | k_is | rfl)
    (case v3 => first | k_is | rfl)
    (case v4 => first | k_is | rfl)
    (case v5 => first | k_is | rfl)
    (case v6 => first | k_is | rfl)
    (case v7 => first | k_is | rfl)
    (case gM => first | k_is | rfl)
    (case gR => first | k_is | rfl)
    (case xM => first | k_is | rfl)
    (case sa => first | k_is | rfl)
    (case nL => first | k_is | rfl)
    (case a1 => first | k_is | rfl)
    (case t1f => first | k_is | rfl)
    (case l1 => first | k_is | rfl)
    (case c1 => first | k_is | rfl)
    (case xc => first | k_is | rfl)
    (case xd => first | k_is | rfl)
    (case xe => first | k_is | rfl)
    (case xf => first | k_is | rfl)
    (case tp => first | k_is | rfl)
    (case op => first | k_is | rfl)
    (case ow => first | k_is | rfl)
    (case su => first | k_is | rfl)
    (case sv => first | k_is | rfl)
    (case kC => first | k_is | rfl)
    (case eC => first | k_is | rfl)
    (case tC => first | k_is | rfl)
    (case aKD => first | k_is | rfl)
    (case lKD => first | k_is | rfl)
    (case aBE => first | k_is | rfl)
    (case lBE => first | k_is | rfl)
    (case vBE1 => first | k_is | rfl)
    (case vBE2 => first | k_is | rfl)
    (case g_cU => first | k_is | rfl)
    (case pg_cU => first | k_is | rfl)
    (case hd_cU => first | k_is | rfl)
    (case po_cU => first | k_is | rfl)
    (case sa_cU => first | k_is | rfl)
    (case mk_cU => first | k_is | rfl)
    (case kc_cU => first | k_is | rfl)
    (case nB => first | k_is | rfl)
    (case a_si => k_is)
    (case i_si => k_is)
    (case l_si => k_is)
    (case cc_si => k_is)
    (case k_si => k_is)
    (case a_sk => k_is)
    (case i_sk => k_is)
    (case l_sk => k_is)
    (case cc_sk => k_is)
    (case k_sk => k_is)
    (case a_sb => k_is)
    (case i_sb => k_is)
    (case l_sb => k_is)
    (case cc_sb => k_is)
    (case k_sb => k_is)
    (case a_sr => k_is)
    (case i_sr => k_is)
    (case l_sr => k_is)
    (case cc_sr => k_is)
    (case k_sr => k_is)
    (case a_sd => k_is)
    (case i_sd => k_is)
    (case l_sd => k_is)
    (case cc_sd => k_is)
    (case k_sd => k_is)
    (case a_sl => k_is)
    (case i_sl => k_is)
    (case l_sl => k_is)
    (case cc_sl => k_is)
    (case k_sl => k_is)
    (case a_sc => k_is)
    (case i_sc => k_is)
    (case l_sc => k_is)
    (case cc_sc => k_is)
    (case k_sc => k_is)
    (case a_so => k_is)
    (case i_so => k_is)
    (case l_so => k_is)
    (case cc_so => k_is)
    (case k_so => k_is)
    (case a_sg => k_is)
    (case i_sg => k_is)
    (case l_sg => k_is)
    (case cc_sg => k_is)
    (case k_sg => k_is)
    (case a_sw => k_is)
    (case i_sw => k_is)
    (case l_sw => k_is)
    (case cc_sw => k_is)
    (case k_sw => k_is)
    case kBE => k_keys
    case tb1 => exact tab_of (x := "is_address") G.T KX rfl (by rfl)
    case tb2 => exact tab_of (x := "_is_platform") G.T KX rfl (by rfl)
    case tb3 => exact ⟨codeHd_of_K (c := 169) (P := 165) KX (by kernel_rfl), PySem.W.km_tabs_of Y 165 (List.mem_singleton.mpr rfl)⟩
    case nB1 => rfl
    case nB2 => rfl
    case nB3 => rfl
    case cMo =>
      obtain ⟨v, e, r⟩ := G.X.2.val (PySem.Str.ofString "_MODULUS", .int 2305843009213693951) (List.Mem.head _)
      cases r
      exact ⟨_, e⟩
