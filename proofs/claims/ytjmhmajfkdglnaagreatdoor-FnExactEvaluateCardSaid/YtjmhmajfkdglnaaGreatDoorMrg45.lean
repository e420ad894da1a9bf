import Derived.Test.YtjmhmajfkdglnaaGreatDoorMrg42
import Derived.Test.YtjmhmajfkdglnaaGreatDoorMrg44
import Derived.Test.YtjmhmajfkdglnaaGreatDoorMrg43
import Derived.Test.YtjmhmajfkdglnaaGreatDoorMrg37
import Derived.Test.YtjmhmajfkdglnaaGreatDoorMrg41
import Derived.Test.YtjmhmajfkdglnaaGreatDoorMrg40
import Derived.Test.YtjmhmajfkdglnaaGreatDoorMrg27
set_option linter.unusedVariables false
set_option maxRecDepth 100000
set_option maxHeartbeats 16000000
namespace Go.Proofs.YtjmhmajfkdglnaaGreatDoor
open Go.RowKit M
theorem enNC : Ent 155 := fun _ _ => by kernel_rfl
theorem enCF : Ent 157 := fun _ _ => by kernel_rfl
theorem enCB : Ent 163 := fun _ _ => by kernel_rfl
noncomputable def pvK (k t r : Nat) (es fs : List Tri) : Nat × Nat :=
  if k = 1 then (prvC 1 t r gT (ptT (nt t gG)) es fs, prvN 1 t r gT (ptT (nt t gG)) es fs)
  else if k = 2 then (prvC 2 t r gT (ptT (nt t gG)) fs es, prvN 2 t r gT (ptT (nt t gG)) fs es) else (0, 0)
structure Rv (k : Nat) (F0 F1 F2 F3 F4 F5 F6 : FuncId) : Prop where
  rl : Rl k F0 F1 F2 F3 F4 F5 F6
  prove : ∀ (info : ByteArray) (t r : Nat) (es fs : List Tri) (n g1 k1 g2 k2 : Nat) (w : World), TabK w → t < 2305843010818082053 → r < 2305843010818082053 → 1 ≤ n → n ≤ 200 → es.length = n → fs.length = n → Cps w g1 (es.map asT) → Cps w g2 (fs.map asT) →
    Calls Tryz.prog 126 #[.agg #[.string (ctxB k), .string info, .func (.func F0) #[] #[], .func (.func F1) #[] #[], .func (.func F2) #[] #[], .func (.func F3) #[] #[], .func (.func F4) #[] #[], .func (.func F5) #[] #[], .func (.func F6) #[] #[]], .agg #[.int .u64 (t : Int)], .slice (some ⟨g1, 0, none⟩) n k1, .slice (some ⟨g2, 0, none⟩) n k2, .agg #[.int .u64 (r : Int)]] w fun e w' => e = .returned (.agg #[.int .u64 ((pvK k t r es fs).1 : Int), .int .u64 ((pvK k t r es fs).2 : Int)]) ∧ Below w.heap.size w w'
theorem prvI_tri (md t r : Nat) (cs ds : List Tri) (n g1 k1 g2 k2 : Nat) (w : World) (hT : TabK w) (hmd : md < 3) (ht : t < 2305843010818082053) (hr : r < 2305843010818082053) (h1 : 1 ≤ n) (hn : n ≤ 200) (hc : cs.length = n) (hd : ds.length = n) (h2 : Cps w g1 (cs.map asT)) (h3 : Cps w g2 (ds.map asT)) :
    Calls Tryz.prog 172 #[.agg #[.string (ctxB md), .int .u64 (px (nt t gG)), .int .u64 (py (nt t gG)), .bool (pb (nt t gG)), .slice (some ⟨g1, 0, none⟩) n k1, .slice (some ⟨g2, 0, none⟩) n k2], .agg #[.int .u64 (t : Int)], .agg #[.int .u64 (px gG), .int .u64 (py gG), .bool (pb gG)], .agg #[.int .u64 (r : Int)]] w fun e w' => e = .returned (.agg #[.int .u64 (prvC md t r gT (ptT (nt t gG)) cs ds : Int), .int .u64 (prvN md t r gT (ptT (nt t gG)) cs ds : Int)]) ∧ Below w.heap.size w w' := by
  have hU : asT (ptT (nt t gG)) = nt t gG := (ptT_of (nt_on gG_on t)).1
  exact prvI_any md n g1 k1 g2 k2 t r gG (nt t gG) (cs.map asT) (ds.map asT) w hT hmd h1 hn (by rw [List.length_map, hc]) (by rw [List.length_map, hd]) gG_on (asT_list cs) h2 h3 ht hr (comM md (ptT (nt t gG)) cs ds cs) (by unfold comM; rw [hU, hc]) (prvC md t r gT (ptT (nt t gG)) cs ds) (by unfold prvC; rw [asT_g, hU])
theorem rv_0 : Rv 0 150 151 152 153 154 155 156 :=
  ⟨rul_0, fun info t r es fs n g1 k1 g2 k2 w hT ht hr h1 hn he hf hc hd => pvpI_no _ info (nt t gG) t r g1 k1 g2 k2 n _ _ _ _ _ _ _ w enNC (fun w' => cplT gG_on t ht w') (fun w' => nclI _ info _ w' n n k1 k2 _ _)⟩
theorem rv_1 : Rv 1 150 151 152 153 154 157 156 :=
  ⟨rul_1, fun info t r es fs n g1 k1 g2 k2 w hT ht hr h1 hn he hf hc hd => pvpI_yes _ info (nt t gG) t r _ _ g1 k1 g2 k2 n _ _ _ _ _ _ _ w enCF g1 g2 k1 k2 (fun w' => cplT gG_on t ht w') (fun w' => cfwI _ info _ w' n n k1 k2 _ _) (fun w' hb => prvI_tri 1 t r es fs n g1 k1 g2 k2 w' (keepT hT (World.block_lt_of_cell? w _ (hT 0 (by omega))) hb) (by omega) ht hr h1 hn he hf (hc.below hb hc.lt) (hd.below hb hd.lt))⟩
theorem rv_2 : Rv 2 158 159 160 161 162 163 164 :=
  ⟨rul_2, fun info t r es fs n g1 k1 g2 k2 w hT ht hr h1 hn he hf hc hd => pvpI_yes _ info (nt t gG) t r _ _ g1 k1 g2 k2 n _ _ _ _ _ _ _ w enCB g2 g1 k2 k1 (fun w' => cplT gG_on t ht w') (fun w' => cbwI _ info _ w' n n k1 k2 _ _) (fun w' hb => prvI_tri 2 t r fs es n g2 k2 g1 k1 w' (keepT hT (World.block_lt_of_cell? w _ (hT 0 (by omega))) hb) (by omega) ht hr h1 hn hf he (hd.below hb hd.lt) (hc.below hb hc.lt))⟩
theorem rv_any (k : Nat) (hk : k < 3) : ∃ F0 F1 F2 F3 F4 F5 F6, Rv k F0 F1 F2 F3 F4 F5 F6 := by
  rcases (show k = 0 ∨ k = 1 ∨ k = 2 by omega) with rfl | rfl | rfl
  · exact ⟨_, _, _, _, _, _, _, rv_0⟩
  · exact ⟨_, _, _, _, _, _, _, rv_1⟩
  · exact ⟨_, _, _, _, _, _, _, rv_2⟩
theorem evaK_eq {mode : Int} (hm : 0 ≤ mode ∧ mode ≤ 2) {key : Nat} {info : ByteArray} {es : List Tri} {r : Nat} (h : evaC mode key info es r = 0) : evaK mode key info es r = pvK mode.toNat (facT mode key info) r es ((evaE mode key info es).map ptT) := by
  unfold evaK pvK evaU
  rw [if_pos h]
  by_cases h1 : mode = 1
  · rw [if_pos h1, if_pos (show mode.toNat = 1 by omega)]
  · rw [if_neg h1, if_neg (show ¬ mode.toNat = 1 by omega)]
    by_cases h2 : mode = 2
    · rw [if_pos h2, if_pos (show mode.toNat = 2 by omega)]
    · rw [if_neg h2, if_neg (show ¬ mode.toNat = 2 by omega)]
theorem facT_lt (mode : Int) (key : Nat) (info : ByteArray) (h : key < 2305843010818082053) : facT mode key info < 2305843010818082053 := by
  unfold facT
  split
  · exact kt_lt _ _
  · exact h
theorem evaI_any (mode : Int) (key : Nat) (info : ByteArray) (es : List Tri) (r : Nat) (g cap : Nat) (a0 a1 a2 a3 : Addr) (w : World) (hT : TabK w) (hs : Sn w a0 a1 a2 a3) (hp : Pts w g 0 es) :
    Calls Tryz.prog 17 #[.int .i64 mode, .int .u64 key, .string info, .slice (some ⟨g, 0, none⟩) es.length cap, .int .u64 r] w fun e w' => ∃ v, e = .returned (.tuple #[.agg #[v, .int .u64 ((evaK mode key info es r).1 : Int), .int .u64 ((evaK mode key info es r).2 : Int)], .int .i64 (evaC mode key info es r)]) ∧ w'.ownsRow w.heap.size 28 3 v (evaG mode key info es r).length (cells3 (evaG mode key info es r)) ∧ Below w.heap.size w w' := by
  have hgw : 6 < w.heap.size := World.block_lt_of_cell? w _ (hT 0 (by omega))
  have err : ∀ (cd : Int) (er : Value), evaC mode key info es r = cd → ¬ cd = 0 → Er a0 a1 a2 a3 er cd →
      (∀ w', Below w.heap.size w w' → Calls Tryz.prog 50 #[.int .i64 mode, .int .u64 key, .string info, .slice (some ⟨g, 0, none⟩) es.length cap, .int .u64 r] w' fun e w'' => ∃ V, e = .returned V ∧ (∃ v, V = .tuple #[.agg #[v, .int .u64 0, .int .u64 0], er] ∧ v = .slice none 0 0) ∧ Below w'.heap.size w' w'') →
      Calls Tryz.prog 17 #[.int .i64 mode, .int .u64 key, .string info, .slice (some ⟨g, 0, none⟩) es.length cap, .int .u64 r] w fun e w' => ∃ v, e = .returned (.tuple #[.agg #[v, .int .u64 ((evaK mode key info es r).1 : Int), .int .u64 ((evaK mode key info es r).2 : Int)], .int .i64 (evaC mode key info es r)]) ∧ w'.ownsRow w.heap.size 28 3 v (evaG mode key info es r).length (cells3 (evaG mode key info es r)) ∧ Below w.heap.size w w' := fun cd er h h0 hv hB => by
    obtain ⟨hG, hK⟩ := eva_none (show ¬ evaC mode key info es r = 0 by rw [h]; exact h0)
    rw [hG, hK, h]
    exact evlE_of (fun v _ => v = .slice none 0 0) mode key r 0 0 cd info g es.length cap 0 [] er w (fun v w' w'' h _ => h) (fun v w' h => by rw [h]; exact World.ownsRow_nil _ _ _ _) hB (fun w' v hb hv' => by rw [hv']; exact ansE_err cd er a0 a1 a2 a3 w' (hs.keep hb) hv)
  by_cases hm : 0 ≤ mode ∧ mode ≤ 2
  · obtain ⟨hk, hk'⟩ := md_of hm.1 hm.2
    obtain ⟨F0, F1, F2, F3, F4, F5, F6, hR⟩ := rv_any mode.toNat hk
    have hfind := hR.rl.find
    have hbad := hR.rl.bad
    have hsec := hR.rl.secret
    have hfac := hR.rl.factor
    have hprv := hR.prove
    have e1 := hR.rl.e1
    have e2 := hR.rl.e2
    rw [hk'] at hfind hbad hsec hfac
    have okE := okI_iff hm (info := info)
    have EI := fun (Φ : Value → World → Prop) (w1 : World) (hb1 : Below w.heap.size w w1) (T : TypeId) (z : Value) => eveI_of Φ mode key r (facT mode key info : Nat) ((evaK mode key info es r).1 : Int) ((evaK mode key info es r).2 : Int) info (ctxB mode.toNat) g es.length cap (es.map asT) (evaE mode key info es) F0 F1 F2 F3 F4 F5 F6 T z a0 a1 a2 a3 w1 (hs.keep hb1) e1
    by_cases ho : okI mode.toNat info
    · have htx : txtB mode 0 info.size = true := txtB_iff.2 ⟨hm, by omega, (okE.1 ho).1, (okE.1 ho).2⟩
      have hFP : ∀ {w1 : World}, Below w.heap.size w w1 → ∀ w', Below w1.heap.size w1 w' → _ := fun {w1} hb1 w' hb => hfind info a0 a1 a2 a3 w' ((hs.keep hb1).keep hb) ho
      by_cases hkey : keyB key = true
      · have hFF : ∀ {w1 : World}, Below w.heap.size w w1 → ∀ w', Below w1.heap.size w1 w' → Calls Tryz.prog 79 #[.int .u64 key] w' fun e w'' => e = .returned (.tuple #[.agg #[.int .u64 (key : Int)], .nilIface]) ∧ Below w'.heap.size w' w'' := fun {w1} hb1 w' hb => by
          have := facI_any key a0 a1 a2 a3 w' ((hs.keep hb1).keep hb)
          rwa [if_pos hkey, if_pos hkey] at this
        have hkl := (keyB_iff.1 hkey).2
        by_cases hlen : 1 ≤ es.length ∧ es.length ≤ 200
        · have hFE0 : ∀ {w1 : World}, Below w.heap.size w w1 → ∀ w', Below w1.heap.size w1 w' → _ := fun {w1} hb1 w' hb => fesI_any es es.length g 0 cap a0 a1 a2 a3 w' ((hs.keep hb1).keep hb) rfl hlen.1 hlen.2 ((hp.below hb1 hp.lt).keep hb)
          by_cases hall : es.all elT = true
          · have hFE : ∀ {w1 : World}, Below w.heap.size w w1 → ∀ w', Below w1.heap.size w1 w' → Calls Tryz.prog 91 #[.slice (some ⟨g, 0, none⟩) es.length cap] w' fun e w'' => ∃ g1 k1, e = .returned (.tuple #[.slice (some ⟨g1, 0, none⟩) es.length k1, .nilIface]) ∧ Cps w'' g1 (es.map asT) ∧ Below w'.heap.size w' w'' := fun {w1} hb1 w' hb => (hFE0 hb1 w' hb).mono (by
              rintro e w'' ⟨⟨v, er, rfl, hy, -⟩, b⟩
              obtain ⟨rfl, hown⟩ := hy hall
              obtain ⟨g1, k1, rfl, -, -⟩ := hown.form (by omega)
              exact ⟨g1, k1, rfl, Cps.of_owns hown, b⟩)
            by_cases hr : r < 2305843010818082053
            · have hEX : ∀ w', Calls Tryz.prog 65 #[.int .u64 r, .agg #[]] w' fun e w'' => e = .returned (.tuple #[.agg #[.int .u64 (r : Int)], .bool true]) ∧ Below w'.heap.size w' w'' := fun w' => by
                have := exN_any r w'
                rwa [if_pos hr, decide_eq_true hr] at this
              have hSE := fun {w1 : World} (hb1 : Below w.heap.size w w1) w' (hb : Below w1.heap.size w1 w') => hsec key info a0 a1 a2 a3 w' (keepT hT hgw (hb1.trans (hb.mono hb1.size))) ((hs.keep hb1).keep hb) hkl (okE.1 ho).1
              have hC : evaC mode key info es r = facC mode key info := evaC_yes ⟨htx, hkey, hr, hlen, hall⟩
              by_cases hc : facC mode key info = 0
              · have hC0 := hC.trans hc
                simp only [hc, if_true] at hSE
                have hG : evaG mode key info es r = evaE mode key info es := if_pos hC0
                have hlE := evaE_length mode key info es
                rw [hG, hC0, hlE]
                have hE : (es.map asT).map (nt (facB mode key info)) = evaE mode key info es := by rw [List.map_map]; rfl
                have hEm := map_asT_ptT (evaE_on mode key info es)
                have hKe := evaK_eq hm hC0
                refine evlE_of (fun v w' => w'.ownsRow w.heap.size 28 3 v es.length (cells3 (evaE mode key info es))) mode key r _ _ 0 info g es.length cap es.length (evaE mode key info es) .nilIface w (fun v w' w'' h b => below_own3 h b) (fun v w' h => h) (fun w1 hb1 => ?_) (fun w' v hb hown => ?_)
                · refine EI (fun V w'' => ∃ v, V = .tuple #[.agg #[v, .int .u64 ((evaK mode key info es r).1 : Int), .int .u64 ((evaK mode key info es r).2 : Int)], .nilIface] ∧ w''.ownsRow w.heap.size 28 3 v es.length (cells3 (evaE mode key info es))) w1 hb1 0 .nilIface (.inr ⟨hFP hb1, .inr ⟨hFF hb1, .inr ⟨hFE hb1, .inr ⟨hEX, .inr ⟨hSE hb1, fun w'' v h => ⟨v, rfl, h.mono hb1.size⟩, fun w' g1 k1 hb hcp => ?_⟩⟩⟩⟩⟩)
                  have hTw := keepT hT hgw (hb1.trans (hb.mono hb1.size))
                  have hgw' : 6 < w'.heap.size := Nat.lt_of_lt_of_le hgw (Nat.le_trans hb1.size hb.size)
                  have := evtI_of (ctxB mode.toNat) info (facT mode key info : Nat) r ((evaK mode key info es r).1 : Int) ((evaK mode key info es r).2 : Int) (facB mode key info) es.length g1 k1 (es.map asT) F0 F1 F2 F3 F4 F5 F6 w' e2 (by rw [List.length_map]) hlen.1 hlen.2 (facB_lt mode key info hkl) (asT_list es) hcp (fun w'' => hfac key info w'' hkl hc) (fun w'' g2 k2 hb2 hc2 => by
                    rw [hKe]
                    rw [hE] at hc2
                    exact hprv info (facT mode key info) r es ((evaE mode key info es).map ptT) es.length g1 k1 g2 k2 w'' (keepT hTw hgw' hb2) (facT_lt mode key info hkl) hr hlen.1 hlen.2 rfl (by rw [List.length_map, hlE]) (hcp.below hb2 hcp.lt) (by rw [hEm]; exact hc2))
                  rw [hE] at this
                  exact this.mono (by
                    rintro e w'' ⟨v, rfl, hown, b⟩
                    exact ⟨v, rfl, hown.mono hb.size, b⟩)
                · obtain ⟨g1, k1, rfl, -, -⟩ := hown.form (by omega)
                  exact ansE_ok _ _ _ _ _ w'
              · have h3 : facC mode key info = 3 := by
                  unfold facC at hc ⊢
                  split
                  · rfl
                  · rename_i hx; rw [if_neg hx] at hc; exact absurd rfl hc
                simp only [hc, if_false] at hSE
                exact err 3 (flt ⟨#[107, 101, 121, 32, 97, 110, 100, 32, 105, 110, 102, 111]⟩ (sen a2)) (hC.trans h3) (by decide) (er_inv _) (fun w1 hb1 => EI _ w1 hb1 0 .nilIface (.inr ⟨hFP hb1, .inr ⟨hFF hb1, .inr ⟨hFE hb1, .inr ⟨hEX, .inl ⟨fun w' => ⟨_, rfl, rfl⟩, hSE hb1⟩⟩⟩⟩⟩))
            · have hEX : ∀ w', Calls Tryz.prog 65 #[.int .u64 r, .agg #[]] w' fun e w'' => e = .returned (.tuple #[.agg #[.int .u64 0], .bool false]) ∧ Below w'.heap.size w' w'' := fun w' => by
                have := exN_any r w'
                rwa [if_neg hr, decide_eq_false hr] at this
              exact err 1 (flt ⟨#[114]⟩ (sen a0)) (evaC_no (fun h => hr h.2.2.1)) (by decide) (er_args _) (fun w1 hb1 => EI _ w1 hb1 0 .nilIface (.inr ⟨hFP hb1, .inr ⟨hFF hb1, .inr ⟨hFE hb1, .inl ⟨fun w' => ⟨_, rfl, rfl⟩, hEX⟩⟩⟩⟩))
          · have hall' : es.all elT = false := by cases h : es.all elT <;> simp_all
            exact err 1 (flt ⟨#[101, 108, 101, 109, 101, 110, 116, 115]⟩ (sen a0)) (evaC_no (fun h => hall h.2.2.2.2)) (by decide) (er_args _) (fun w1 hb1 => EI _ w1 hb1 0 .nilIface (.inr ⟨hFP hb1, .inr ⟨hFF hb1, .inl ⟨fun w' => ⟨_, rfl, rfl⟩, fun w' hb => (hFE0 hb1 w' hb).mono (by
              rintro e w'' ⟨⟨v, er, rfl, -, hn⟩, b⟩
              obtain ⟨rfl, rfl⟩ := hn hall'
              exact ⟨rfl, b⟩)⟩⟩⟩))
        · exact err 1 (flt ⟨#[101, 108, 101, 109, 101, 110, 116, 115]⟩ (sen a0)) (evaC_no (fun h => hlen h.2.2.2.1)) (by decide) (er_args _) (fun w1 hb1 => EI _ w1 hb1 0 .nilIface (.inr ⟨hFP hb1, .inr ⟨hFF hb1, .inl ⟨fun w' => ⟨_, rfl, rfl⟩, fun w' hb => fesI_len _ es.length cap a0 a1 a2 a3 w' ((hs.keep hb1).keep hb) (by omega)⟩⟩⟩))
      · exact err 1 (flt ⟨#[107, 101, 121]⟩ (sen a0)) (evaC_no (fun h => hkey h.2.1)) (by decide) (er_args _) (fun w1 hb1 => EI _ w1 hb1 0 .nilIface (.inr ⟨hFP hb1, .inl ⟨fun w' => ⟨_, rfl, rfl⟩, fun w' hb => by
          have := facI_any key a0 a1 a2 a3 w' ((hs.keep hb1).keep hb)
          rwa [if_neg hkey, if_neg hkey] at this⟩⟩))
    · exact err 1 (flt ⟨#[105, 110, 102, 111]⟩ (sen a0)) (evaC_no (fun h => ho (okE.2 ⟨(txtB_iff.1 h.1).2.2.1, (txtB_iff.1 h.1).2.2.2⟩))) (by decide) (er_args _) (fun w1 hb1 => EI _ w1 hb1 150 (.agg #[.string ⟨#[105, 110, 102, 111]⟩, sen a0]) (.inl ⟨fun w' => ⟨_, rfl, rfl⟩, fun w' hb => hbad info a0 a1 a2 a3 w' ((hs.keep hb1).keep hb) ho⟩))
  · exact err 1 (flt ⟨#[109, 111, 100, 101]⟩ (sen a0)) (evaC_no (fun h => hm (txtB_iff.1 h.1).1)) (by decide) (er_args _) (fun w1 hb1 => eveI_of _ mode key r 0 0 0 info ⟨#[]⟩ g es.length cap [] [] 0 151 0 0 0 0 0 150 (.agg #[.string ⟨#[109, 111, 100, 101]⟩, sen a0]) a0 a1 a2 a3 w1 (hs.keep hb1) enKA (.inl ⟨fun w' => ⟨_, rfl, rfl⟩, fun w' hb => proI_no mode _ info a0 a1 a2 a3 w' ((hs.keep hb1).keep hb) (fun w => ctxI_no mode w hm)⟩))
end Go.Proofs.YtjmhmajfkdglnaaGreatDoor
namespace Go.Proofs.YtjmhmajfkdglnaaGreatDoor
open Go.RowKit
section
variable {A : Act} {w : World} {dst : Option Tmp} {ty : TypeId} {ps : String} {af : Array Edge} {gd : Option (Nat × Bool)} {x y : Operand} {b i : Nat}
theorem sl_pts1 {x0 : Operand} {x0' y0' : Int} {c0' : Bool} (h0 : A.eval x0 = .agg #[.int .u64 x0', .int .u64 y0', .bool c0']) :
    Does Tryz.prog { dst := dst, op := .buildSlice 38 1 #[(0, x0)], type := ty, pos := ps, after := af, guard := gd } A w fun v w' => v = .slice (some ⟨w.heap.size, 0, none⟩) 1 1 ∧ w' = w.alloc (.cells #[.int .u64 x0', .int .u64 y0', .bool c0'] 28) := by
  have h : (execOp A.eval { dst := dst, op := .buildSlice 38 1 #[(0, x0)], type := ty, pos := ps, after := af, guard := gd }).run Tryz.prog w = .ok (.value (.slice (some ⟨w.heap.size, 0, none⟩) 1 1)) (w.alloc (.cells #[.int .u64 x0', .int .u64 y0', .bool c0'] 28)) := by generalize A.eval = ev at *; simp [execOp, h0, go_sem]
  exact does_value h ⟨rfl, rfl⟩
theorem ex_ptsl {v0 : Value} {s : Option Addr} {n k : Nat} (hx : A.eval x = .pointer (some ⟨b, i, none⟩)) (hy : A.eval y = .slice s n k) (hc : w.cell? ⟨b, i, none⟩ = some v0) (hf : w.frozen? ⟨b, i, none⟩ = false) :
    (execOp A.eval { dst := dst, op := .store 38 x y, type := ty, pos := ps, after := af, guard := gd }).run Tryz.prog w = .ok .skip (w.setCell ⟨b, i, none⟩ (.slice s n k)) := by generalize A.eval = ev at *; simp [execOp, hx, hy, hc, hf, go_sem]
end
end Go.Proofs.YtjmhmajfkdglnaaGreatDoor
