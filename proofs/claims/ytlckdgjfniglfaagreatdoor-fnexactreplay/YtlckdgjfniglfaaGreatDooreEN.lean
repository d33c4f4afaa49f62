import Derived.Test.YtlckdgjfniglfaaGreatDooreEL
set_option linter.unusedVariables false
set_option maxHeartbeats 8000000
set_option maxRecDepth 100000
namespace Go.Proofs.YtlckdgjfniglfaaGreatDoor
open Proofs.Tryz
open Go.RowKit
theorem c35_4 (x:N10) (hk:x.kd=4) (ai:Option Addr) (ci:Nat) (w:World) (hle:x.le 1048576) (hat:LksAt w ai x.ls):
 Calls prog 35 #[.agg #[.int .i64 4,.int .i64 x.ep,.string x.fn,.string x.ft,.string x.km.nm,.string x.km.tl,.string x.km.ar,.slice ai x.ls.length ci,.int .i64 x.cd,.string x.tx]] w fun e w'=>IsT (EntOk x) (entL x) e/\Below w.heap.size w w':=by
 obtain ⟨f1,f2,⟨m1,m2,m3⟩,⟨hl,hs⟩,f3⟩:=hle;have hB0:∀ o,Below w.heap.size w (w.alloc o):=fun o=>bA_;go_enter func35,ntmps35
 go_wp2_with fail
 refine (c59 4 x.ep x.cd 0 0 x.cd x.fn x.ft x.km.nm x.km.tl x.km.ar x.tx ⟨#[]⟩ ⟨#[]⟩ x.km.nm x.km.tl x.km.ar x.tx ai ai x.ls.length x.ls.length ci ci _ hl hl).mono ?_;rintro e w9 ⟨⟨r,rfl,hr⟩,hb1⟩;have HR:Hid (r=true↔x=eRan x.km x.ls x.cd x.tx):=hr.trans (sm_4 hk);have hx1:Below (w.heap.size+1) (w.alloc (.cells #[.int .i64 4,.int .i64 x.ep,.string x.fn,.string x.ft,.string x.km.nm,.string x.km.tl,.string x.km.ar,.slice ai x.ls.length ci,.int .i64 x.cd,.string x.tx] 47)) w9:=by have h:=hb1;simp at h;exact h
 have hB9:Below w.heap.size w w9:=(hB0 _).trans (hx1.mono om_);have bA:=(blk_new w [.int .i64 4,.int .i64 x.ep,.string x.fn,.string x.ft,.string x.km.nm,.string x.km.tl,.string x.km.ar,.slice ai x.ls.length ci,.int .i64 x.cd,.string x.tx] 47).below hx1 om_;have hz9:w.heap.size<w9.heap.size:=by have h:=hx1.size;simp at h;omega
 clear hr hb1 hx1;have n4:=bA 4 _ rfl;have n5:=bA 5 _ rfl;have n6:=bA 6 _ rfl;have n7:=bA 7 _ rfl;have n8:=bA 8 _ rfl;have n9:=bA 9 _ rfl;cases r
 · have HN:Hid (IsT (EntOk x) (entL x) (.returned (.string ⟨#[]⟩))):=isT_no (fun h=>absurd (HR.out.2 ((ok_4 hk).1 h).1) Bool.false_ne_true)
   go_wp2;go_ret;exact ⟨HN.out,hB9⟩
 · have HQ:Hid (x=eRan x.km x.ls x.cd x.tx):=HR.out.1 rfl
   go_wp2_with fail
   refine (c63 x.km x.ls x.cd x.tx ai ci _ ⟨m1,m2,m3⟩ hl hs f3 (lks_below hat hB9)).mono ?_;rintro e w1 ⟨⟨r2,rfl,hr2⟩,hb9⟩;have HR2:Hid (r2=true↔RanOk x.km x.ls x.cd x.tx):=hr2;have hB1:Below w.heap.size w w1:=bT_ hB9 hb9;have k4:=(hb9.cell (p:=⟨w.heap.size,4,none⟩) (by exact hz9)).trans n4;have k5:=(hb9.cell (p:=⟨w.heap.size,5,none⟩) (by exact hz9)).trans n5;have k6:=(hb9.cell (p:=⟨w.heap.size,6,none⟩) (by exact hz9)).trans n6;have k7:=(hb9.cell (p:=⟨w.heap.size,7,none⟩) (by exact hz9)).trans n7;have k8:=(hb9.cell (p:=⟨w.heap.size,8,none⟩) (by exact hz9)).trans n8;have k9:=(hb9.cell (p:=⟨w.heap.size,9,none⟩) (by exact hz9)).trans n9;have hz1:w.heap.size<w1.heap.size:=Nat.lt_of_lt_of_le hz9 hb9.size;have HAT:Hid (LksAt w ai x.ls):=hat;have HS:Hid (∀ i,(x.ls.getD i l4z).le 1048576):=hs;clear hr2 hb9 n4 n5 n6 n7 n8 n9 hz9 bA hB9 hat hs;cases r2
   · have HN:Hid (IsT (EntOk x) (entL x) (.returned (.string ⟨#[]⟩))):=isT_no (fun h=>absurd (HR2.out.2 ((ok_4 hk).1 h).2) Bool.false_ne_true)
     go_wp2;go_ret;exact ⟨HN.out,hB1⟩
   · have HRO:Hid (RanOk x.km x.ls x.cd x.tx):=HR2.out.1 rfl
     have HOK:Hid (EntOk x):=(ok_4 hk).2 ⟨HQ.out,HRO.out⟩;obtain ⟨z0,z1,z2⟩:=okM_len HRO.out.1;have y0:x.km.nm.size<=20:=by simpa using z0
     have y1:x.km.tl.size<=20:=by simpa using z1
     have y2:x.km.ar.size<=300:=by simpa using z2
     have y3:=quote_size x.km.ar;have y4:(ofL (looksL x.ls)).size<=13950:=by rw [ofL_size];exact looks_small HRO.out.2.1
     have HC:Hid (0<=x.cd/\x.cd<=7):=vr_codeE HRO.out.2.2;have y5:(ofL (resL x.cd x.tx)).size<=904:=by rw [ofL_size];exact res_len HC.out.1 HC.out.2 (vr_len HRO.out.2.2)
     have HE:Hid ((⟨#[114,97,110,32]⟩:ByteArray)++x.km.nm++⟨#[32]⟩++x.km.tl++⟨#[32]⟩++ofL (quoteL x.km.ar.data.toList)++⟨#[10]⟩++ofL (looksL x.ls)++⟨#[103,97,118,101,32]⟩++ofL (resL x.cd x.tx)++⟨#[10]⟩=ofL (entL x)):=by show _=_;rw [ent_4,<- HQ.out]
     have g0:¬ 9223372036854775807<4+x.km.nm.size:=om_;have g1':¬ 9223372036854775807<=4+x.km.nm.size:=om_;have g1:¬ 9223372036854775807<4+x.km.nm.size+1:=om_;have g2:¬ 9223372036854775807<4+x.km.nm.size+1+x.km.tl.size:=om_;have g3':¬ 9223372036854775807<=4+x.km.nm.size+1+x.km.tl.size:=om_;have g3:¬ 9223372036854775807<4+x.km.nm.size+1+x.km.tl.size+1:=om_;have g4:¬ 9223372036854775807<4+x.km.nm.size+1+x.km.tl.size+1+(ofL (quoteL x.km.ar.data.toList)).size:=om_;have g5':¬ 9223372036854775807<=4+x.km.nm.size+1+x.km.tl.size+1+(ofL (quoteL x.km.ar.data.toList)).size:=om_;have g5:¬ 9223372036854775807<4+x.km.nm.size+1+x.km.tl.size+1+(ofL (quoteL x.km.ar.data.toList)).size+1:=om_;have g6:¬ 9223372036854775807<4+x.km.nm.size+1+x.km.tl.size+1+(ofL (quoteL x.km.ar.data.toList)).size+1+(ofL (looksL x.ls)).size:=om_;have g7:¬ 9223372036854775807<4+x.km.nm.size+1+x.km.tl.size+1+(ofL (quoteL x.km.ar.data.toList)).size+1+(ofL (looksL x.ls)).size+5:=om_;have g8:¬ 9223372036854775807<4+x.km.nm.size+1+x.km.tl.size+1+(ofL (quoteL x.km.ar.data.toList)).size+1+(ofL (looksL x.ls)).size+5+(ofL (resL x.cd x.tx)).size:=om_;have g9':¬ 9223372036854775807<=4+x.km.nm.size+1+x.km.tl.size+1+(ofL (quoteL x.km.ar.data.toList)).size+1+(ofL (looksL x.ls)).size+5+(ofL (resL x.cd x.tx)).size:=om_;have g9:¬ 9223372036854775807<4+x.km.nm.size+1+x.km.tl.size+1+(ofL (quoteL x.km.ar.data.toList)).size+1+(ofL (looksL x.ls)).size+5+(ofL (resL x.cd x.tx)).size+1:=om_;have h9:¬ (16000:Int)<4+(x.km.nm.size:Int)+1+(x.km.tl.size:Int)+1+((ofL (quoteL x.km.ar.data.toList)).size:Int)+1+((ofL (looksL x.ls)).size:Int)+5+((ofL (resL x.cd x.tx)).size:Int)+1:=om_;clear z0 z1 z2
     go_wp2_with fail
     refine wp_region_held_drew (S:=(fun u=>u.cell? ⟨w.heap.size,4,none⟩=some (.string x.km.nm)/\u.cell? ⟨w.heap.size,5,none⟩=some (.string x.km.tl)/\u.cell? ⟨w.heap.size,6,none⟩=some (.string x.km.ar)/\u.cell? ⟨w.heap.size,7,none⟩=some (.slice ai x.ls.length ci)/\u.cell? ⟨w.heap.size,8,none⟩=some (.int .i64 x.cd)/\u.cell? ⟨w.heap.size,9,none⟩=some (.string x.tx))) kr_ ?_ fun hHeld=>?_
     · ((try dsimp only);go_keep)
     refine tq 0 hHeld ?_
     try simp only [qq]
     refine tq 1 hHeld ?_
     try simp only [qq]
     refine tq 2 hHeld ?_
     try simp only [qq]
     refine tq 3 hHeld ?_
     try simp only [qq]
     refine tq 4 hHeld ?_
     try simp only [qq]
     refine tq 5 hHeld ?_
     try simp only [qq]
     refine tq 6 hHeld ?_
     try simp only [qq]
     refine tq 7 hHeld ?_
     try simp only [qq]
     refine tq 8 hHeld ?_
     try simp only [qq]
     refine tq 9 hHeld ?_
     try simp only [qq]
     refine tq 10 hHeld ?_
     try simp only [qq]
     refine tq 11 hHeld ?_
     try simp only [qq]
     refine tq 12 hHeld ?_
     try simp only [qq]
     refine tq 16 hHeld ?_
     try simp only [qq]
     refine tq 17 hHeld ?_
     try simp only [qq]
     refine tq 21 hHeld ?_
     try simp only [qq]
     refine tq 22 hHeld ?_
     try simp only [qq]
     refine rq 13 fun K hK=>?_;go_simp;refine (c61' x.km.ar _ om_).mono ?_;rintro e w2 ⟨rfl,hb2⟩;have HB2:Hid (Below w1.heap.size w1 w2):=((Below.refl _ _).drew).trans hb2;have p4:=(HB2.out.cell (p:=⟨w.heap.size,4,none⟩) (by exact hz1)).trans k4;have p5:=(HB2.out.cell (p:=⟨w.heap.size,5,none⟩) (by exact hz1)).trans k5;have p6:=(HB2.out.cell (p:=⟨w.heap.size,6,none⟩) (by exact hz1)).trans k6;have p7:=(HB2.out.cell (p:=⟨w.heap.size,7,none⟩) (by exact hz1)).trans k7;have p8:=(HB2.out.cell (p:=⟨w.heap.size,8,none⟩) (by exact hz1)).trans k8;have p9:=(HB2.out.cell (p:=⟨w.heap.size,9,none⟩) (by exact hz1)).trans k9;have hz2:w.heap.size<w2.heap.size:=Nat.lt_of_lt_of_le hz1 HB2.out.size;clear hb2
     go_wp2_with fail
     clear hHeld;refine hK.out _ _ ?_ fun hHeld=>?_
     · ((try dsimp only);go_keep)
     clear hK K
     try simp only [qq]
     refine tq 14 hHeld ?_
     try simp only [qq]
     refine tq 15 hHeld ?_
     try simp only [qq]
     refine rq 18 fun K hK=>?_;go_simp;refine (c64 ai ci x.ls _ HRO.out.2.1 HS.out (lks_below HAT.out (bT_ hB1 HB2.out))).mono ?_;rintro e w3 ⟨rfl,hb3⟩;have HB3:Hid (Below w2.heap.size w2 w3):=hb3;have q4:=(HB3.out.cell (p:=⟨w.heap.size,4,none⟩) (by exact hz2)).trans p4;have q5:=(HB3.out.cell (p:=⟨w.heap.size,5,none⟩) (by exact hz2)).trans p5;have q6:=(HB3.out.cell (p:=⟨w.heap.size,6,none⟩) (by exact hz2)).trans p6;have q7:=(HB3.out.cell (p:=⟨w.heap.size,7,none⟩) (by exact hz2)).trans p7;have q8:=(HB3.out.cell (p:=⟨w.heap.size,8,none⟩) (by exact hz2)).trans p8;have q9:=(HB3.out.cell (p:=⟨w.heap.size,9,none⟩) (by exact hz2)).trans p9;have hz3:w.heap.size<w3.heap.size:=Nat.lt_of_lt_of_le hz2 HB3.out.size;clear hb3
     go_wp2_with fail
     clear hHeld;refine hK.out _ _ ?_ fun hHeld=>?_
     · ((try dsimp only);go_keep)
     clear hK K
     try simp only [qq]
     refine tq 19 hHeld ?_
     try simp only [qq]
     refine tq 20 hHeld ?_
     try simp only [qq]
     refine rq 23 fun K hK=>?_;go_simp;refine (c65 x.cd x.tx _ HC.out.1 (by have:=HC.out.2;omega) om_).mono ?_;rintro e w4 ⟨rfl,hb4⟩;have HB4:Hid (Below w3.heap.size w3 w4):=hb4;have r4:=(HB4.out.cell (p:=⟨w.heap.size,4,none⟩) (by exact hz3)).trans q4;have r5:=(HB4.out.cell (p:=⟨w.heap.size,5,none⟩) (by exact hz3)).trans q5;have r6:=(HB4.out.cell (p:=⟨w.heap.size,6,none⟩) (by exact hz3)).trans q6;have r7:=(HB4.out.cell (p:=⟨w.heap.size,7,none⟩) (by exact hz3)).trans q7;have r8:=(HB4.out.cell (p:=⟨w.heap.size,8,none⟩) (by exact hz3)).trans q8;have r9:=(HB4.out.cell (p:=⟨w.heap.size,9,none⟩) (by exact hz3)).trans q9;clear hb4
     go_wp2_with fail
     clear hHeld;refine hK.out _ _ ?_ fun hHeld=>?_
     · ((try dsimp only);go_keep)
     clear hK K
     try simp only [qq]
     refine tq 24 hHeld ?_
     try simp only [qq]
     refine tq 25 hHeld ?_
     try simp only [qq]
     refine tq 26 hHeld ?_
     try simp only [qq]
     refine wpAnyH_done kr_ ?_ _;have hB2:Below w.heap.size w w4:=((bT_ hB1 HB2.out).trans (HB3.out.mono (Nat.le_of_lt hz2))).trans (HB4.out.mono (Nat.le_of_lt hz3));clear hHeld;go_wp2;go_ret;exact ⟨⟨_,rfl,.inl ⟨HOK.out,HE.out⟩⟩,hB2⟩
end Go.Proofs.YtlckdgjfniglfaaGreatDoor
