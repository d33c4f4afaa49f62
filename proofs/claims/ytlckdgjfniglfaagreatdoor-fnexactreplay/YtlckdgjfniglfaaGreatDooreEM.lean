import Derived.Test.YtlckdgjfniglfaaGreatDooreEL
set_option linter.unusedVariables false
set_option maxHeartbeats 8000000
set_option maxRecDepth 100000
namespace Go.Proofs.YtlckdgjfniglfaaGreatDoor
open Proofs.Tryz
open Go.RowKit
theorem c35_2 (x:N10) (hk:x.kd=2) (ai:Option Addr) (ci:Nat) (w:World) (hle:x.le 1048576) (hat:LksAt w ai x.ls):
 Calls prog 35 #[.agg #[.int .i64 2,.int .i64 x.ep,.string x.fn,.string x.ft,.string x.km.nm,.string x.km.tl,.string x.km.ar,.slice ai x.ls.length ci,.int .i64 x.cd,.string x.tx]] w fun e w'=>IsT (EntOk x) (entL x) e/\Below w.heap.size w w':=by
 obtain ⟨f1,f2,⟨m1,m2,m3⟩,⟨hl,hs⟩,f3⟩:=hle;have hB0:∀ o,Below w.heap.size w (w.alloc o):=fun o=>bA_;go_enter func35,ntmps35
 go_wp2_with fail
 refine (c59 2 x.ep x.cd 0 0 0 x.fn x.ft x.km.nm x.km.tl x.km.ar x.tx x.fn x.ft ⟨#[]⟩ ⟨#[]⟩ ⟨#[]⟩ ⟨#[]⟩ ai none x.ls.length 0 ci 0 _ hl om_).mono ?_;rintro e w9 ⟨⟨r,rfl,hr⟩,hb1⟩;have HR:Hid (r=true↔x=eFile x.fn x.ft):=hr.trans (sm_2 hk);have hx1:Below (w.heap.size+1) (w.alloc (.cells #[.int .i64 2,.int .i64 x.ep,.string x.fn,.string x.ft,.string x.km.nm,.string x.km.tl,.string x.km.ar,.slice ai x.ls.length ci,.int .i64 x.cd,.string x.tx] 47)) w9:=by have h:=hb1;simp at h;exact h
 have hB9:Below w.heap.size w w9:=(hB0 _).trans (hx1.mono om_);have bA:=(blk_new w [.int .i64 2,.int .i64 x.ep,.string x.fn,.string x.ft,.string x.km.nm,.string x.km.tl,.string x.km.ar,.slice ai x.ls.length ci,.int .i64 x.cd,.string x.tx] 47).below hx1 om_;have hz9:w.heap.size<w9.heap.size:=by have h:=hx1.size;simp at h;omega
 clear hr hb1 hx1;have n1:=bA 2 _ rfl;have n2:=bA 3 _ rfl;cases r
 · have HN:Hid (IsT (EntOk x) (entL x) (.returned (.string ⟨#[]⟩))):=isT_no (fun h=>absurd (HR.out.2 ((ok_2 hk).1 h).1) Bool.false_ne_true)
   go_wp2;go_ret;exact ⟨HN.out,hB9⟩
 · have HQ:Hid (x=eFile x.fn x.ft):=HR.out.1 rfl
   go_wp2_with fail
   refine (c60 x.fn x.ft _ om_ om_).mono ?_;rintro e w1 ⟨⟨r2,rfl,hr2⟩,hb9⟩;have HR2:Hid (r2=true↔(nameOk x.fn.data.toList=true/\x.ft.size<=300)):=hr2;have hB1:Below w.heap.size w w1:=bT_ hB9 hb9;have k1:=(hb9.cell (p:=⟨w.heap.size,2,none⟩) (by exact hz9)).trans n1;have k2:=(hb9.cell (p:=⟨w.heap.size,3,none⟩) (by exact hz9)).trans n2;have hz1:w.heap.size<w1.heap.size:=Nat.lt_of_lt_of_le hz9 hb9.size;clear hr2 hb9 n1 n2 hz9 bA hB9 hat;cases r2
   · have HN:Hid (IsT (EntOk x) (entL x) (.returned (.string ⟨#[]⟩))):=isT_no (fun h=>absurd (HR2.out.2 ((ok_2 hk).1 h).2) Bool.false_ne_true)
     go_wp2;go_ret;exact ⟨HN.out,hB1⟩
   · have q3:=HR2.out.1 rfl
     have HOK:Hid (EntOk x):=(ok_2 hk).2 ⟨HQ.out,q3⟩;have z0:=(name_len q3.1).2;have z1:x.fn.size<=20:=by simpa using z0
     have z2:=quote_size x.ft;have z3:=q3.2;have HE:Hid ((⟨#[102,105,108,101,32]⟩:ByteArray)++x.fn++⟨#[32]⟩++ofL (quoteL x.ft.data.toList)++⟨#[10]⟩=ofL (entL x)):=by show _=_;rw [ent_2,<- HQ.out]
     have g0:¬ 9223372036854775807<5+x.fn.size:=om_;have g1':¬ 9223372036854775807<=5+x.fn.size:=om_;have g1:¬ 9223372036854775807<5+x.fn.size+1:=om_;have g2:¬ 9223372036854775807<5+x.fn.size+1+(ofL (quoteL x.ft.data.toList)).size:=om_;have g3':¬ 9223372036854775807<=5+x.fn.size+1+(ofL (quoteL x.ft.data.toList)).size:=om_;have g3:¬ 9223372036854775807<5+x.fn.size+1+(ofL (quoteL x.ft.data.toList)).size+1:=om_;have g9:¬ (16000:Int)<5+(x.fn.size:Int)+1+((ofL (quoteL x.ft.data.toList)).size:Int)+1:=om_;clear q3 z0
     go_wp2_with fail
     refine wp_region_held_drew (S:=(fun u=>u.cell? ⟨w.heap.size,2,none⟩=some (.string x.fn)/\u.cell? ⟨w.heap.size,3,none⟩=some (.string x.ft))) kr_ ?_ fun hHeld=>?_
     · ((try dsimp only);go_keep)
     refine tq 0 hHeld ?_
     try simp only [qq]
     refine tq 1 hHeld ?_
     try simp only [qq]
     refine tq 2 hHeld ?_
     try simp only [qq]
     refine tq 3 hHeld ?_
     try simp only [qq]
     refine tq 4 hHeld ?_
     try simp only [qq]
     refine tq 5 hHeld ?_
     try simp only [qq]
     refine tq 6 hHeld ?_
     try simp only [qq]
     refine tq 7 hHeld ?_
     try simp only [qq]
     refine rq 8 fun K hK=>?_;go_simp;refine (c61' x.ft _ om_).mono ?_;rintro e w2 ⟨rfl,hb2⟩;have HB2:Hid (Below w1.heap.size w1 w2):=((Below.refl _ _).drew).trans hb2;have d2:=(HB2.out.cell (p:=⟨w.heap.size,2,none⟩) (by exact hz1)).trans k1;have d3:=(HB2.out.cell (p:=⟨w.heap.size,3,none⟩) (by exact hz1)).trans k2;clear hb2
     go_wp2_with fail
     clear hHeld;refine hK.out _ _ ?_ fun hHeld=>?_
     · ((try dsimp only);go_keep)
     clear hK K
     try simp only [qq]
     refine tq 9 hHeld ?_
     try simp only [qq]
     refine tq 10 hHeld ?_
     try simp only [qq]
     refine tq 11 hHeld ?_
     try simp only [qq]
     refine wpAnyH_done kr_ ?_ _;have hB2:Below w.heap.size w w2:=bT_ hB1 HB2.out;clear hHeld;go_wp2;go_ret;exact ⟨⟨_,rfl,.inl ⟨HOK.out,HE.out⟩⟩,hB2⟩
end Go.Proofs.YtlckdgjfniglfaaGreatDoor
