import Derived.Test.YtlckdgjfniglfaaGreatDoorK5
set_option linter.unusedVariables false
set_option maxHeartbeats 8000000
set_option maxRecDepth 100000
namespace Go.Proofs.YtlckdgjfniglfaaGreatDoor
open Proofs.Tryz
open Go.RowKit
theorem own_keep {u u':World} {base e size n:Nat} {v:Value} {xs:List Value} (h:u.ownsRow base e size v n xs) (hk:∀ q,v.ownBlock=some q->u'.heap[q]?=u.heap[q]?):u'.ownsRow base e size v n xs:=by
 refine ⟨h.1,h.2.imp id ?_⟩;rintro ⟨g,cap,cur,h1,h2,h3,h4⟩;exact ⟨g,cap,cur,h1,h2,(hk g (by rw [h1];rfl)).trans h3,h4⟩
theorem c110s (b:Bool) (s:ByteArray) (w:World) (hs:s=if b=true then ⟨#[49]⟩ else ⟨#[48]⟩):Calls prog 110 #[.bool b] w fun e w'=>e=.returned (.string s)/\Below w.heap.size w w':=by
 subst hs;exact c110 b w
theorem c73 (m:M3) (ls:List L4) (c:Int) (t:ByteArray) (W:Int) (a:Option Addr) (cap:Nat) (w:World) (hm:m.le 1048600) (ht:t.size<=1048700) (hf:(ofL (formR c t.data.toList)).size<=1048700) (hl:ls.length<=1048576) (hs:∀ i,(ls.getD i l4z).tx.size<=1048600/\(glT (ls.getD i l4z)).size<=1048700) (hat:LksAt w a ls):
 Calls prog 73 #[.agg #[.string m.nm,.string m.tl,.string m.ar],.slice a ls.length cap,.agg #[.int .i64 c,.string t],.int .i64 W] w fun e w'=>(∃ v,e=.returned (.agg #[.string (keyR m),v,.string (sumS (ofL (formR c t.data.toList)) W)])/\w'.ownsRow w.heap.size 119 3 v ls.length (glC W ls))/\Below w.heap.size w w':=by
 have hm1:=hm.2.1;have hm2:=hm.2.2;have hk1:¬ 9223372036854775807<m.tl.size+1:=om_;have hk2:¬ 9223372036854775807<m.tl.size+1+m.ar.size:=om_;have hB0:Below w.heap.size w (((w.alloc (.cells #[.string m.nm,.string m.tl,.string m.ar] 42)).alloc (.cells #[.int .i64 c,.string t] 45)).alloc (.cells #[.string ⟨#[]⟩,.slice none 0 0,.string ⟨#[]⟩] 96)):=(bA_.alloc sm_ _).alloc so_ _;have hz:(((w.alloc (.cells #[.string m.nm,.string m.tl,.string m.ar] 42)).alloc (.cells #[.int .i64 c,.string t] 45)).alloc (.cells #[.string ⟨#[]⟩,.slice none 0 0,.string ⟨#[]⟩] 96)).heap.size=w.heap.size+3:=sm_;have ZA:Hid (BlkAt (((w.alloc (.cells #[.string m.nm,.string m.tl,.string m.ar] 42)).alloc (.cells #[.int .i64 c,.string t] 45)).alloc (.cells #[.string ⟨#[]⟩,.slice none 0 0,.string ⟨#[]⟩] 96)) w.heap.size [.string m.nm,.string m.tl,.string m.ar]):=fun j x hx=>by
  match j with
  | 0=>obtain rfl:=Option.some.inj hx;simp [go_sem]
  | 1=>obtain rfl:=Option.some.inj hx;simp [go_sem]
  | 2=>obtain rfl:=Option.some.inj hx;simp [go_sem]
  | j+3=>simp at hx
 have ZB:Hid (BlkAt (((w.alloc (.cells #[.string m.nm,.string m.tl,.string m.ar] 42)).alloc (.cells #[.int .i64 c,.string t] 45)).alloc (.cells #[.string ⟨#[]⟩,.slice none 0 0,.string ⟨#[]⟩] 96)) (w.heap.size+1) [.int .i64 c,.string t]):=fun j x hx=>by
  match j with
  | 0=>obtain rfl:=Option.some.inj hx;simp [go_sem]
  | 1=>obtain rfl:=Option.some.inj hx;simp [go_sem]
  | j+2=>simp at hx
 have ZR:Hid (BlkAt (((w.alloc (.cells #[.string m.nm,.string m.tl,.string m.ar] 42)).alloc (.cells #[.int .i64 c,.string t] 45)).alloc (.cells #[.string ⟨#[]⟩,.slice none 0 0,.string ⟨#[]⟩] 96)) (w.heap.size+2) [.string ⟨#[]⟩,.slice none 0 0,.string ⟨#[]⟩]):=fun j x hx=>by simp [go_sem,hx]
 have FR:Hid (OpnAt (((w.alloc (.cells #[.string m.nm,.string m.tl,.string m.ar] 42)).alloc (.cells #[.int .i64 c,.string t] 45)).alloc (.cells #[.string ⟨#[]⟩,.slice none 0 0,.string ⟨#[]⟩] 96)) (w.heap.size+2)):=fun j=>by simp [go_sem]
 have HL:=hI_ (lks_below hat hB0);clear hat;go_enter func73,ntmps73
 go_wp2_with fail
 generalize (((w.alloc (.cells #[.string m.nm,.string m.tl,.string m.ar] 42)).alloc (.cells #[.int .i64 c,.string t] 45)).alloc (.cells #[.string ⟨#[]⟩,.slice none 0 0,.string ⟨#[]⟩] 96))=V at*;rename_i K0 hK0;have TAIL:∀ (A:Nat) (E:World),Below V.heap.size V E->V.heap.size<=A->A<E.heap.size->BlkAt E A [.string (m.tl++⟨#[32]⟩++m.ar),.slice none 0 0,.string (sumS (ofL (formR c t.data.toList)) W)]->OpnAt E A->K0 { tmps:=#[.agg #[.string m.nm,.string m.tl,.string m.ar],.slice a ls.length cap,.agg #[.int .i64 c,.string t],.int .i64 W,.pointer (some ⟨w.heap.size,0,none⟩),undef,.pointer (some ⟨w.heap.size+1,0,none⟩),undef,.pointer (some ⟨w.heap.size+2,0,none⟩),.pointer (some ⟨A,0,none⟩),undef,undef,.pointer (some ⟨w.heap.size,1,none⟩),.string m.tl,.string (m.tl++⟨#[32]⟩),.pointer (some ⟨w.heap.size,2,none⟩),.string m.ar,.string (m.tl++⟨#[32]⟩++m.ar),.agg #[.int .i64 c,.string t],.string (ofL (formR c t.data.toList)),.int .i64 W,.string (sumS (ofL (formR c t.data.toList)) W),.agg #[.string (m.tl++⟨#[32]⟩++m.ar),.slice none 0 0,.string (sumS (ofL (formR c t.data.toList)) W)],undef,undef,undef,undef,undef,undef,undef,undef,undef,undef,undef,undef,undef,undef,undef,undef,undef,undef,undef,undef,undef,undef,undef,undef,undef,undef,undef,undef,undef,undef,undef,undef,undef,undef,undef,undef,undef,undef,undef,undef,undef,undef,undef,undef,undef,undef],defers:=[] } E:=by
  intro A E hE hA1 hA2 hM hF;obtain ⟨i0,hi,hz0,hz1,hz2⟩:=info_parts' info119;have hsE:=hE.size;have hBE:=bT_ hB0 hE;have HZR:=hI_ (ZR.out.below hE om_);have HFR:=hI_ (FR.out.below hE om_);have HM:=hI_ hM;have HFA:=hI_ hF;obtain ⟨b,off,hc⟩:=lks_some HL.out;have HC:=hI_ hc;clear hM hF hc ZA ZB ZR FR HL;refine hK0 _ _ ?_;clear hK0
  go_wp2_with fail
  go_loopw [10] (fun i wr=>∃ (k:Nat) (v:Value),k<=ls.length/\i=.int .i64 k/\Hid (BlkAt wr A [.string (m.tl++⟨#[32]⟩++m.ar),v,.string (sumS (ofL (formR c t.data.toList)) W)])/\Hid (OpnAt wr A)/\Hid (wr.ownsRow E.heap.size 119 3 v k (glC W (ls.take k)))/\But A E wr) (fun i _=>ls.length - (intOf i).toNat)
  case atStart=>exact ⟨0,.slice none 0 0,Nat.zero_le _,rfl,HM,HFA,World.ownsRow_nil _ _ _ _,But.refl _ _⟩
  case round=>
   obtain ⟨k,v,hk,rfl,HAr,HFr,HOr,BTr⟩:=hrel;obtain ⟨av,cv,rfl⟩:=row_form HOr.out;have szr:=BTr.size;by_cases hlt:k<ls.length
   · rcases HC.out with hss | ⟨ha,hbw,hcell⟩
     · rw [hss] at hlt;exact absurd hlt (Nat.not_lt_zero _)
     subst ha;have hbE:b<E.heap.size/\b≠A:=⟨om_,om_⟩;have GC:Hid (∀ u,But A E u->u.cell? ⟨b,off+k*4,none⟩=some (.bool (ls.getD k l4z).has)/\u.cell? ⟨b,off+k*4+1,none⟩=some (.string (ls.getD k l4z).nm)/\u.cell? ⟨b,off+k*4+2,none⟩=some (.int .i64 (ls.getD k l4z).cd)/\u.cell? ⟨b,off+k*4+3,none⟩=some (.string (ls.getD k l4z).tx)):=fun u hu=>⟨(hu.cell (p:=⟨b,off+k*4,none⟩) hbE.1 hbE.2).trans ((hE.cell (p:=⟨b,off+k*4,none⟩) hbw).trans (hcell k hlt).1),(hu.cell (p:=⟨b,off+k*4+1,none⟩) hbE.1 hbE.2).trans ((hE.cell (p:=⟨b,off+k*4+1,none⟩) hbw).trans (hcell k hlt).2.1),(hu.cell (p:=⟨b,off+k*4+2,none⟩) hbE.1 hbE.2).trans ((hE.cell (p:=⟨b,off+k*4+2,none⟩) hbw).trans (hcell k hlt).2.2.1),(hu.cell (p:=⟨b,off+k*4+3,none⟩) hbE.1 hbE.2).trans ((hE.cell (p:=⟨b,off+k*4+3,none⟩) hbw).trans (hcell k hlt).2.2.2)⟩;have HT:=hI_ (take_next hlt);have hxs:=hs k;have hDn:∀ q,(Value.slice av k cv).ownBlock=some q->q<wr.heap.size:=fun q hq=>own_lt HOr.out hq;clear hcell;generalize ls.getD k l4z=x at*;have BTd:But A E wr.drew:=BTr.trans (But.of_below (Below.refl _ _).drew);have gd:=GC.out _ BTd;have gd0:=gd.1;have gd1:=gd.2.1;clear gd
     go_wp2_with fail
     refine wp_region_held_drew (S:=(fun u=>u.cell? ⟨b,off+k*4,none⟩=some (.bool x.has)/\u.cell? ⟨b,off+k*4+1,none⟩=some (.string x.nm))) kr_ ?_ fun hHeld=>?_
     · exact ⟨gd0,gd1⟩
     refine tq 0 hHeld ?_
     try simp only [qq]
     refine tq 1 hHeld ?_
     try simp only [qq]
     refine tq 2 hHeld ?_
     try simp only [qq]
     refine tq 3 hHeld ?_
     try simp only [qq]
     refine tq 4 hHeld ?_
     try simp only [qq]
     refine tq 5 hHeld ?_
     try simp only [qq]
     refine tq 6 hHeld ?_
     try simp only [qq]
     refine tq 7 hHeld ?_
     try simp only [qq]
     refine tq 8 hHeld ?_
     try simp only [qq]
     refine tq 9 hHeld ?_
     try simp only [qq]
     refine tq 10 hHeld ?_
     try simp only [qq]
     refine rq 11 fun K hK=>?_;go_simp;have hbA:Below wr.heap.size wr ((wr.alloc (.cells #[.bool false,.string ⟨#[]⟩,.string ⟨#[]⟩] 119)).drew):=bA_.drew;have szA:((wr.alloc (.cells #[.bool false,.string ⟨#[]⟩,.string ⟨#[]⟩] 119)).drew).heap.size=wr.heap.size+1:=sm_;have BTA:=BTr.trans (But.of_below hbA);have HAA:=hI_ (HAr.out.below hbA om_);have HFA':=hI_ (HFr.out.below hbA om_);have HOA:=hI_ (own_below HOr.out hbA);have ZD:Hid (BlkAt ((wr.alloc (.cells #[.bool false,.string ⟨#[]⟩,.string ⟨#[]⟩] 119)).drew) wr.heap.size [.bool false,.string ⟨#[]⟩,.string ⟨#[]⟩]):=hI_ ((blk_new wr [.bool false,.string ⟨#[]⟩,.string ⟨#[]⟩] 119).below (Below.refl (wr.heap.size+1) _).drew om_);have FD:Hid (OpnAt ((wr.alloc (.cells #[.bool false,.string ⟨#[]⟩,.string ⟨#[]⟩] 119)).drew) wr.heap.size):=hI_ ((opn_new wr ([.bool false,.string ⟨#[]⟩,.string ⟨#[]⟩]:List Value).toArray 119).below (Below.refl (wr.heap.size+1) _).drew om_);have ga:=GC.out _ BTA;have ga0:=ga.1;have ga1:=ga.2.1;clear ga;clear hHeld;refine hK.out _ _ ?_ fun hHeld=>?_
     · exact ⟨ga0,ga1⟩
     clear hK K
     try simp only [qq]
     generalize ((wr.alloc (.cells #[.bool false,.string ⟨#[]⟩,.string ⟨#[]⟩] 119)).drew)=uA at*;refine rq 12 fun K hK=>?_;refine step_store_blk rfl 119 (.tmp 11) (.tmp 39) rfl wr.heap.size 0 rfl [.bool x.has,.string x.nm,.string ⟨#[]⟩] rfl (blk_some ZD.out rfl) FD.out (by simp [Value.oneCell']) kr_ rfl ?_;clear hHeld;refine st_over (old:=[.bool false,.string ⟨#[]⟩,.string ⟨#[]⟩]) (N:=wr.heap.size) rfl ZD.out FD.out lr_ ?_;intro uB hbB ZB' FB' szB hoB;have BTB:But A E uB:=⟨hbB.os.trans BTA.os,hbB.tape.trans BTA.tape,hbB.output.trans BTA.output,om_,fun q hq hne=>(hbB.block q om_).trans (BTA.block q hq hne)⟩;have HAB:=hI_ (HAA.out.below hbB om_);have HFB:=hI_ (HFA'.out.below hbB om_);have HOB:=hI_ (own_keep HOA.out (fun q hq=>hbB.block q (hDn q hq)));have ZDB:=hI_ ZB';have FDB:=hI_ FB';have gb:=GC.out _ BTB;have gb0:=gb.1;have gb1:=gb.2.1;have gb2:=gb.2.2.1;have gb3:=gb.2.2.2;clear gb ZB' FB' hoB;refine hK.out _ _ ⟨gb0,gb1⟩ fun hHeld=>?_;clear hK K hHeld HAA HFA' HOA ZD FD HAr HFr HOr hbB hbA;refine wpAnyH_done kr_ ?_ _;have d0:=ZDB.out 0 _ rfl;cases hh:x.has
     · rw [hh] at d0
       have HG:Hid (glT x=ofL (formR x.cd x.tx.data.toList)):=by show glT x=_;unfold glT;rw [hh];rfl
       have hsz:(ofL (formR x.cd x.tx.data.toList)).size<=1048700:=by rw [<- HG.out];exact hxs.2
       go_wp2_with fail
       refine (c72 x.cd x.tx uB (by have:=hxs.1;omega)).mono ?_;rintro e u1 ⟨rfl,hb1⟩;have szu1:=hb1.size;have HAu1:=hI_ (HAB.out.below hb1 om_);have HFu1:=hI_ (HFB.out.below hb1 om_);have HOu1:=hI_ (own_below HOB.out hb1);have BTu1:=BTB.trans (But.of_below hb1);have ZDu1:=hI_ (ZDB.out.below hb1 om_);have FDu1:=hI_ (FDB.out.below hb1 om_);clear hb1 HAB HFB HOB ZDB FDB
       go_wp2_with fail
       refine (c109 (ofL (formR x.cd x.tx.data.toList)) W u1 hsz).mono ?_;rintro e u2 ⟨rfl,hb2⟩;have szu2:=hb2.size;have HAu2:=hI_ (HAu1.out.below hb2 om_);have HFu2:=hI_ (HFu1.out.below hb2 om_);have HOu2:=hI_ (own_below HOu1.out hb2);have BTu2:=BTu1.trans (But.of_below hb2);have ZDu2:=hI_ (ZDu1.out.below hb2 om_);have FDu2:=hI_ (FDu1.out.below hb2 om_);clear hb2 HAu1 HFu1 HOu1 ZDu1 FDu1;clear hh d0;have r2:=ZDu2.out 2 _ rfl;have rf2:=FDu2.out 2;have sT:(u2.setCell ⟨wr.heap.size,2,none⟩ (.string (sumS (ofL (formR x.cd x.tx.data.toList)) W))).heap.size=u2.heap.size:=sm_;have bT:Below wr.heap.size u2 (u2.setCell ⟨wr.heap.size,2,none⟩ (.string (sumS (ofL (formR x.cd x.tx.data.toList)) W))):=(Below.refl _ _).setCell (p:=⟨wr.heap.size,2,none⟩) lr_ _;have HAv:=hI_ (HAu2.out.below bT om_);have HFv:=hI_ (HFu2.out.below bT om_);have HOv:=hI_ (own_keep HOu2.out (fun q hq=>bT.block q (hDn q hq)));have BTv:But A E (u2.setCell ⟨wr.heap.size,2,none⟩ (.string (sumS (ofL (formR x.cd x.tx.data.toList)) W))):=⟨bT.os.trans BTu2.os,bT.tape.trans BTu2.tape,bT.output.trans BTu2.output,om_,fun q hq hne=>(bT.block q om_).trans (BTu2.block q hq hne)⟩;have ZDv:Hid (BlkAt (u2.setCell ⟨wr.heap.size,2,none⟩ (.string (sumS (ofL (formR x.cd x.tx.data.toList)) W))) wr.heap.size [.bool x.has,.string x.nm,.string (sumS (ofL (formR x.cd x.tx.data.toList)) W)]):=ZDu2.out.set 2 _ sm_;have yv:=HAv.out 1 _ rfl;clear bT;have hbN:Below (u2.setCell ⟨wr.heap.size,2,none⟩ (.string (sumS (ofL (formR x.cd x.tx.data.toList)) W))).heap.size (u2.setCell ⟨wr.heap.size,2,none⟩ (.string (sumS (ofL (formR x.cd x.tx.data.toList)) W))) ((u2.setCell ⟨wr.heap.size,2,none⟩ (.string (sumS (ofL (formR x.cd x.tx.data.toList)) W))).alloc (.cells #[.bool x.has,.string x.nm,.string (sumS (ofL (formR x.cd x.tx.data.toList)) W)] 119)):=bA_;have szN:((u2.setCell ⟨wr.heap.size,2,none⟩ (.string (sumS (ofL (formR x.cd x.tx.data.toList)) W))).alloc (.cells #[.bool x.has,.string x.nm,.string (sumS (ofL (formR x.cd x.tx.data.toList)) W)] 119)).heap.size=u2.heap.size+1:=sm_;have HAn:=hI_ (HAv.out.below hbN om_);have HFn:=hI_ (HFv.out.below hbN om_);have HOn:=hI_ (own_below HOv.out hbN);have BTn:=BTv.trans (But.of_below hbN);have HR:Hid (∀ j q,([.bool x.has,.string x.nm,.string (sumS (ofL (formR x.cd x.tx.data.toList)) W)]:List Value)[j]?=some q->((u2.setCell ⟨wr.heap.size,2,none⟩ (.string (sumS (ofL (formR x.cd x.tx.data.toList)) W))).alloc (.cells #[.bool x.has,.string x.nm,.string (sumS (ofL (formR x.cd x.tx.data.toList)) W)] 119)).cell? ((⟨u2.heap.size,0,none⟩:Addr).add j)=some q):=fun j q hj=>by
        rw [adr_add,Nat.zero_add];have h:=blk_new (u2.setCell ⟨wr.heap.size,2,none⟩ (.string (sumS (ofL (formR x.cd x.tx.data.toList)) W))) [.bool x.has,.string x.nm,.string (sumS (ofL (formR x.cd x.tx.data.toList)) W)] 119 j q hj;rw [sT] at h;exact h
       clear HAu2 HFu2 HOu2 HAv HFv HOv hbN
       go_wp2_with (first | refine wpList_load_blk rfl 119 (.tmp 11) rfl wr.heap.size rfl [.bool x.has,.string x.nm,.string (sumS (ofL (formR x.cd x.tx.data.toList)) W)] _ ZDv.out underlying119 rfl kr_ ?_ | (refine wpList_app rfl (.tmp 63) (.tmp 65) 94 rfl E.heap.size 119 i0 (.agg #[.bool false,.string ⟨#[]⟩,.string ⟨#[]⟩]) 3 40 underlying94 hi hz0 hz1 hz2 rfl dc_ (.slice av k cv) k (glC W (ls.take k)) rfl HOn.out ⟨u2.heap.size,0,none⟩ 1 1 [.bool x.has,.string x.nm,.string (sumS (ofL (formR x.cd x.tx.data.toList)) W)] rfl rfl HR.out (by simp [Value.oneCell']) (by unfold maxLen;omega) om_ om_ ?_;intro v' w6 hO6 hgrow;obtain ⟨a6,c906,rfl⟩:=row_form hO6;have hb6:Below E.heap.size ((u2.setCell ⟨wr.heap.size,2,none⟩ (.string (sumS (ofL (formR x.cd x.tx.data.toList)) W))).alloc (.cells #[.bool x.has,.string x.nm,.string (sumS (ofL (formR x.cd x.tx.data.toList)) W)] 119)) w6:=(Below.refl _ _).grown hgrow om_ (fun q hq=>own_blk HOn.out hq);have s6:=hb6.size;have HO6:=hI_ hO6;have HA6:=hI_ (HAn.out.below hb6 hA2);have HF6:=hI_ (HFn.out.below hb6 hA2);have BT6:But A E w6:=⟨hb6.os.trans BTn.os,hb6.tape.trans BTn.tape,hb6.output.trans BTn.output,om_,fun q hq hne=>(hb6.block q hq).trans (BTn.block q hq hne)⟩;have y6:=HA6.out 1 _ rfl;have f6:=HF6.out 1;clear hO6 hgrow hb6 HAn HFn HOn HR ZDv r2 rf2 yv))
       have HA7:Hid (BlkAt (w6.setCell ⟨A,1,none⟩ (.slice a6 (k+1) c906)) A [.string (m.tl++⟨#[32]⟩++m.ar),.slice a6 (k+1) c906,.string (sumS (ofL (formR c t.data.toList)) W)]):=HA6.out.set 1 _ sm_;have HF7:Hid (OpnAt (w6.setCell ⟨A,1,none⟩ (.slice a6 (k+1) c906)) A):=HF6.out.set _ _;have HO7:Hid ((w6.setCell ⟨A,1,none⟩ (.slice a6 (k+1) c906)).ownsRow E.heap.size 119 3 (.slice a6 (k+1) c906) (k+1) (glC W (ls.take (k+1)))):=by
        show World.ownsRow _ _ _ _ _ _ _;rw [HT.out,glC_snoc,HG.out];exact own_set HO6.out _ _ (by show A<_;omega)
       have BT7:But A E (w6.setCell ⟨A,1,none⟩ (.slice a6 (k+1) c906)):=BT6.setCell 1 _;go_roundw
       case rel=>exact ⟨k+1,.slice a6 (k+1) c906,om_,by go_num,HA7,HF7,HO7,BT7⟩
       case measure=>simp [intOf];omega
     · rw [hh] at d0
       obtain ⟨s,hs0⟩:∃ s:ByteArray,s=if (x.cd==0)=true then ⟨#[49]⟩ else ⟨#[48]⟩:=⟨_,rfl⟩;have HS:=hI_ hs0;have HG:Hid (glT x=s):=by show glT x=_;rw [hs0];unfold glT;rw [hh];by_cases h0:x.cd=0 <;> simp [h0]
       have hsz:s.size<=1048700:=by rw [<- HG.out];exact hxs.2
       clear hs0
       go_wp2_with fail
       refine (c110s (x.cd==0) s uB HS.out).mono ?_;rintro e u1 ⟨rfl,hb1⟩;have szu1:=hb1.size;have HAu1:=hI_ (HAB.out.below hb1 om_);have HFu1:=hI_ (HFB.out.below hb1 om_);have HOu1:=hI_ (own_below HOB.out hb1);have BTu1:=BTB.trans (But.of_below hb1);have ZDu1:=hI_ (ZDB.out.below hb1 om_);have FDu1:=hI_ (FDB.out.below hb1 om_);clear hb1 HAB HFB HOB ZDB FDB
       go_wp2_with fail
       refine (c109 s W u1 hsz).mono ?_;rintro e u2 ⟨rfl,hb2⟩;have szu2:=hb2.size;have HAu2:=hI_ (HAu1.out.below hb2 om_);have HFu2:=hI_ (HFu1.out.below hb2 om_);have HOu2:=hI_ (own_below HOu1.out hb2);have BTu2:=BTu1.trans (But.of_below hb2);have ZDu2:=hI_ (ZDu1.out.below hb2 om_);have FDu2:=hI_ (FDu1.out.below hb2 om_);clear hb2 HAu1 HFu1 HOu1 ZDu1 FDu1;clear hh d0;have r2:=ZDu2.out 2 _ rfl;have rf2:=FDu2.out 2;have sT:(u2.setCell ⟨wr.heap.size,2,none⟩ (.string (sumS s W))).heap.size=u2.heap.size:=sm_;have bT:Below wr.heap.size u2 (u2.setCell ⟨wr.heap.size,2,none⟩ (.string (sumS s W))):=(Below.refl _ _).setCell (p:=⟨wr.heap.size,2,none⟩) lr_ _;have HAv:=hI_ (HAu2.out.below bT om_);have HFv:=hI_ (HFu2.out.below bT om_);have HOv:=hI_ (own_keep HOu2.out (fun q hq=>bT.block q (hDn q hq)));have BTv:But A E (u2.setCell ⟨wr.heap.size,2,none⟩ (.string (sumS s W))):=⟨bT.os.trans BTu2.os,bT.tape.trans BTu2.tape,bT.output.trans BTu2.output,om_,fun q hq hne=>(bT.block q om_).trans (BTu2.block q hq hne)⟩;have ZDv:Hid (BlkAt (u2.setCell ⟨wr.heap.size,2,none⟩ (.string (sumS s W))) wr.heap.size [.bool x.has,.string x.nm,.string (sumS s W)]):=ZDu2.out.set 2 _ sm_;have yv:=HAv.out 1 _ rfl;clear bT;have hbN:Below (u2.setCell ⟨wr.heap.size,2,none⟩ (.string (sumS s W))).heap.size (u2.setCell ⟨wr.heap.size,2,none⟩ (.string (sumS s W))) ((u2.setCell ⟨wr.heap.size,2,none⟩ (.string (sumS s W))).alloc (.cells #[.bool x.has,.string x.nm,.string (sumS s W)] 119)):=bA_;have szN:((u2.setCell ⟨wr.heap.size,2,none⟩ (.string (sumS s W))).alloc (.cells #[.bool x.has,.string x.nm,.string (sumS s W)] 119)).heap.size=u2.heap.size+1:=sm_;have HAn:=hI_ (HAv.out.below hbN om_);have HFn:=hI_ (HFv.out.below hbN om_);have HOn:=hI_ (own_below HOv.out hbN);have BTn:=BTv.trans (But.of_below hbN);have HR:Hid (∀ j q,([.bool x.has,.string x.nm,.string (sumS s W)]:List Value)[j]?=some q->((u2.setCell ⟨wr.heap.size,2,none⟩ (.string (sumS s W))).alloc (.cells #[.bool x.has,.string x.nm,.string (sumS s W)] 119)).cell? ((⟨u2.heap.size,0,none⟩:Addr).add j)=some q):=fun j q hj=>by
        rw [adr_add,Nat.zero_add];have h:=blk_new (u2.setCell ⟨wr.heap.size,2,none⟩ (.string (sumS s W))) [.bool x.has,.string x.nm,.string (sumS s W)] 119 j q hj;rw [sT] at h;exact h
       clear HAu2 HFu2 HOu2 HAv HFv HOv hbN
       go_wp2_with (first | refine wpList_load_blk rfl 119 (.tmp 11) rfl wr.heap.size rfl [.bool x.has,.string x.nm,.string (sumS s W)] _ ZDv.out underlying119 rfl kr_ ?_ | (refine wpList_app rfl (.tmp 63) (.tmp 65) 94 rfl E.heap.size 119 i0 (.agg #[.bool false,.string ⟨#[]⟩,.string ⟨#[]⟩]) 3 40 underlying94 hi hz0 hz1 hz2 rfl dc_ (.slice av k cv) k (glC W (ls.take k)) rfl HOn.out ⟨u2.heap.size,0,none⟩ 1 1 [.bool x.has,.string x.nm,.string (sumS s W)] rfl rfl HR.out (by simp [Value.oneCell']) (by unfold maxLen;omega) om_ om_ ?_;intro v' w6 hO6 hgrow;obtain ⟨a6,c906,rfl⟩:=row_form hO6;have hb6:Below E.heap.size ((u2.setCell ⟨wr.heap.size,2,none⟩ (.string (sumS s W))).alloc (.cells #[.bool x.has,.string x.nm,.string (sumS s W)] 119)) w6:=(Below.refl _ _).grown hgrow om_ (fun q hq=>own_blk HOn.out hq);have s6:=hb6.size;have HO6:=hI_ hO6;have HA6:=hI_ (HAn.out.below hb6 hA2);have HF6:=hI_ (HFn.out.below hb6 hA2);have BT6:But A E w6:=⟨hb6.os.trans BTn.os,hb6.tape.trans BTn.tape,hb6.output.trans BTn.output,om_,fun q hq hne=>(hb6.block q hq).trans (BTn.block q hq hne)⟩;have y6:=HA6.out 1 _ rfl;have f6:=HF6.out 1;clear hO6 hgrow hb6 HAn HFn HOn HR ZDv r2 rf2 yv))
       have HA7:Hid (BlkAt (w6.setCell ⟨A,1,none⟩ (.slice a6 (k+1) c906)) A [.string (m.tl++⟨#[32]⟩++m.ar),.slice a6 (k+1) c906,.string (sumS (ofL (formR c t.data.toList)) W)]):=HA6.out.set 1 _ sm_;have HF7:Hid (OpnAt (w6.setCell ⟨A,1,none⟩ (.slice a6 (k+1) c906)) A):=HF6.out.set _ _;have HO7:Hid ((w6.setCell ⟨A,1,none⟩ (.slice a6 (k+1) c906)).ownsRow E.heap.size 119 3 (.slice a6 (k+1) c906) (k+1) (glC W (ls.take (k+1)))):=by
        show World.ownsRow _ _ _ _ _ _ _;rw [HT.out,glC_snoc,HG.out];exact own_set HO6.out _ _ (by show A<_;omega)
       have BT7:But A E (w6.setCell ⟨A,1,none⟩ (.slice a6 (k+1) c906)):=BT6.setCell 1 _;go_roundw
       case rel=>exact ⟨k+1,.slice a6 (k+1) c906,om_,by go_num,HA7,HF7,HO7,BT7⟩
       case measure=>simp [intOf];omega
   · obtain rfl:k=ls.length:=om_
     have Z7:Hid (BlkAt wr (w.heap.size+2) [.string ⟨#[]⟩,.slice none 0 0,.string ⟨#[]⟩]):=fun j q hq=>(BTr.cell (p:=⟨w.heap.size+2,j,none⟩) (show w.heap.size+2<E.heap.size by omega) (show w.heap.size+2≠A by omega)).trans (HZR.out j q hq);have F7:Hid (OpnAt wr (w.heap.size+2)):=fun j=>(World.frozen?_of_block (a:=⟨w.heap.size+2,j,none⟩) (BTr.block (w.heap.size+2) om_ om_)).trans (HFR.out j);have hB7:Below w.heap.size w wr:=hBE.trans (BTr.below om_ om_)
     go_wp2_with (first | refine wpList_load_blk rfl 96 (.tmp 9) rfl A rfl _ _ HAr.out underlying96 rfl kr_ ?_ | refine wpList_store_blk rfl 96 (.tmp 8) (.tmp 68) rfl (w.heap.size+2) 0 rfl _ rfl (blk_some Z7.out rfl) F7.out (by simp [Value.oneCell']) kr_ rfl ?_)
     refine st_over (old:=[.string ⟨#[]⟩,.slice none 0 0,.string ⟨#[]⟩]) (N:=w.heap.size+2) rfl Z7.out F7.out lr_ ?_;intro E' hbE' ZE' FE' hsE' hoE';refine bodyPost_ret (v:=.agg ([.string (m.tl++⟨#[32]⟩++m.ar),.slice av ls.length cv,.string (sumS (ofL (formR c t.data.toList)) W)]:List Value).toArray) (results_blk (P:=prog) (ty:=96) rfl _ E' (w.heap.size+2) [.string (m.tl++⟨#[32]⟩++m.ar),.slice av ls.length cv,.string (sumS (ofL (formR c t.data.toList)) W)] _ rfl ZE' underlying96 rfl kr_) rfl ⟨⟨_,rfl,?_⟩,hB7.trans (hbE'.mono om_)⟩;have hO7:=HOr.out;rw [List.take_length] at hO7;exact own_low (own_other hO7 hsE' (fun q hq hne=>hoE' q hq hne) om_) om_
 have hV:Below V.heap.size V V:=Below.refl _ _;have hVdrew:Below V.heap.size V V.drew:=(Below.refl _ _).drew;have p1Vd:=(ZA.out.below hVdrew om_) 1 _ rfl;have p2Vd:=(ZA.out.below hVdrew om_) 2 _ rfl;have q0Vd:=(ZB.out.below hVdrew om_) 0 _ rfl;have q1Vd:=(ZB.out.below hVdrew om_) 1 _ rfl;refine wp_region_held_drew (S:=(fun u=>u.cell? ⟨w.heap.size,1,none⟩=some (.string m.tl)/\u.cell? ⟨w.heap.size,2,none⟩=some (.string m.ar)/\u.cell? ⟨w.heap.size+1,0,none⟩=some (.int .i64 c)/\u.cell? ⟨w.heap.size+1,1,none⟩=some (.string t))) kr_ ?_ fun hHeld=>?_
 · exact ⟨p1Vd,p2Vd,q0Vd,q1Vd⟩
 refine tq 0 hHeld ?_
 try simp only [qq]
 refine tq 1 hHeld ?_
 try simp only [qq]
 refine tq 2 hHeld ?_
 try simp only [qq]
 refine tq 3 hHeld ?_
 try simp only [qq]
 refine tq 4 hHeld ?_
 try simp only [qq]
 refine tq 5 hHeld ?_
 try simp only [qq]
 refine tq 6 hHeld ?_
 try simp only [qq]
 refine tq 8 hHeld ?_
 try simp only [qq]
 refine wpAnyH_ready (rs:=[7,11]) kr_ sm_ ?_;refine AllReadyH.cons (o:=⟨some 19,.call ⟨.value (.func 72),#[.tmp 18],#[45]⟩,9,_,_,none⟩) rfl (fun K hK=>?_) (AllReadyH.cons (o:=⟨some 9,.alloc 96,0,_,_,none⟩) rfl (fun K hK=>?_) AllReadyH.nil)
 · go_simp
   refine (c72 c t V.drew ht).mono ?_;rintro e uB ⟨rfl,hbn⟩;have huB:=bT_ hVdrew hbn;have zuB:=hbn.size;have p1uB:=(ZA.out.below huB om_) 1 _ rfl;have p2uB:=(ZA.out.below huB om_) 2 _ rfl;have q0uB:=(ZB.out.below huB om_) 0 _ rfl;have q1uB:=(ZB.out.below huB om_) 1 _ rfl;clear hbn;go_simp;clear hHeld;refine hK.out _ _ ?_ fun hHeld=>?_
   · exact ⟨p1uB,p2uB,q0uB,q1uB⟩
   clear hK K
   try simp only [qq]
   refine wpAnyH_ready (rs:=[9,11]) kr_ sm_ ?_;refine AllReadyH.cons (o:=⟨some 21,.call ⟨.value (.func 109),#[.tmp 19,.tmp 20],#[9,3]⟩,9,_,_,none⟩) rfl (fun K hK=>?_) (AllReadyH.cons (o:=⟨some 9,.alloc 96,0,_,_,none⟩) rfl (fun K hK=>?_) AllReadyH.nil)
   · go_simp
     refine (c109 (ofL (formR c t.data.toList)) W uB hf).mono ?_;rintro e uC ⟨rfl,hbn⟩;have huC:=bT_ huB hbn;have zuC:=hbn.size;have p1uC:=(ZA.out.below huC om_) 1 _ rfl;have p2uC:=(ZA.out.below huC om_) 2 _ rfl;have q0uC:=(ZB.out.below huC om_) 0 _ rfl;have q1uC:=(ZB.out.below huC om_) 1 _ rfl;clear hbn;go_simp;clear hHeld;refine hK.out _ _ ?_ fun hHeld=>?_
     · exact ⟨p1uC,p2uC,q0uC,q1uC⟩
     clear hK K
     try simp only [qq]
     refine tq 10 hHeld ?_
     try simp only [qq]
     refine rq 11 fun K hK=>?_;go_simp;have huD:Below V.heap.size V (uC.alloc (.cells #[.string ⟨#[]⟩,.slice none 0 0,.string ⟨#[]⟩] 96)):=huC.alloc huC.size _;have HAuD:=hI_ (blk_new uC [.string ⟨#[]⟩,.slice none 0 0,.string ⟨#[]⟩] 96);have HOuD:=hI_ (opn_new uC ([.string ⟨#[]⟩,.slice none 0 0,.string ⟨#[]⟩]:List Value).toArray 96);have zuD:(uC.alloc (.cells #[.string ⟨#[]⟩,.slice none 0 0,.string ⟨#[]⟩] 96)).heap.size=uC.heap.size+1:=sm_;have luD:=huC.size;have p1uD:=(ZA.out.below huD om_) 1 _ rfl;have p2uD:=(ZA.out.below huD om_) 2 _ rfl;have q0uD:=(ZB.out.below huD om_) 0 _ rfl;have q1uD:=(ZB.out.below huD om_) 1 _ rfl;clear hHeld;refine hK.out _ _ ?_ fun hHeld=>?_
     · exact ⟨p1uD,p2uD,q0uD,q1uD⟩
     clear hK K
     try simp only [qq]
     generalize (uC.alloc (.cells #[.string ⟨#[]⟩,.slice none 0 0,.string ⟨#[]⟩] 96))=uD at*;refine rq 12 fun K hK=>?_;refine step_store_blk rfl 96 (.tmp 9) (.tmp 22) rfl uC.heap.size 0 rfl [.string (m.tl++⟨#[32]⟩++m.ar),.slice none 0 0,.string (sumS (ofL (formR c t.data.toList)) W)] rfl (blk_some HAuD.out rfl) HOuD.out (by simp [Value.oneCell']) kr_ rfl ?_;clear hHeld;refine st_over (old:=[.string ⟨#[]⟩,.slice none 0 0,.string ⟨#[]⟩]) (N:=V.heap.size) rfl HAuD.out HOuD.out om_ ?_;intro E hbE ZE FE hsE hoE;have hE:=huD.trans hbE;have p1E:=(ZA.out.below hE om_) 1 _ rfl;have p2E:=(ZA.out.below hE om_) 2 _ rfl;have q0E:=(ZB.out.below hE om_) 0 _ rfl;have q1E:=(ZB.out.below hE om_) 1 _ rfl;refine hK.out _ _ ⟨p1E,p2E,q0E,q1E⟩ fun hHeld=>?_;clear hK K;refine wpAnyH_done kr_ ?_ _;exact TAIL uC.heap.size E hE om_ om_ ZE FE
   · go_simp
     have huC:Below V.heap.size V (uB.alloc (.cells #[.string ⟨#[]⟩,.slice none 0 0,.string ⟨#[]⟩] 96)):=huB.alloc huB.size _;have HAuC:=hI_ (blk_new uB [.string ⟨#[]⟩,.slice none 0 0,.string ⟨#[]⟩] 96);have HOuC:=hI_ (opn_new uB ([.string ⟨#[]⟩,.slice none 0 0,.string ⟨#[]⟩]:List Value).toArray 96);have zuC:(uB.alloc (.cells #[.string ⟨#[]⟩,.slice none 0 0,.string ⟨#[]⟩] 96)).heap.size=uB.heap.size+1:=sm_;have luC:=huB.size;have p1uC:=(ZA.out.below huC om_) 1 _ rfl;have p2uC:=(ZA.out.below huC om_) 2 _ rfl;have q0uC:=(ZB.out.below huC om_) 0 _ rfl;have q1uC:=(ZB.out.below huC om_) 1 _ rfl;clear hHeld;refine hK.out _ _ ?_ fun hHeld=>?_
     · exact ⟨p1uC,p2uC,q0uC,q1uC⟩
     clear hK K
     try simp only [qq]
     generalize (uB.alloc (.cells #[.string ⟨#[]⟩,.slice none 0 0,.string ⟨#[]⟩] 96))=uC at*;refine rq 9 fun K hK=>?_;go_simp;refine (c109 (ofL (formR c t.data.toList)) W uC hf).mono ?_;rintro e uD ⟨rfl,hbn⟩;have huD:=bT_ huC hbn;have zuD:=hbn.size;have p1uD:=(ZA.out.below huD om_) 1 _ rfl;have p2uD:=(ZA.out.below huD om_) 2 _ rfl;have q0uD:=(ZB.out.below huD om_) 0 _ rfl;have q1uD:=(ZB.out.below huD om_) 1 _ rfl;have HAuD:=hI_ (HAuC.out.below hbn om_);have HOuD:=hI_ (HOuC.out.below hbn om_);clear HAuC HOuC;clear hbn;go_simp;clear hHeld;refine hK.out _ _ ?_ fun hHeld=>?_
     · exact ⟨p1uD,p2uD,q0uD,q1uD⟩
     clear hK K
     try simp only [qq]
     refine tq 10 hHeld ?_
     try simp only [qq]
     refine rq 12 fun K hK=>?_;refine step_store_blk rfl 96 (.tmp 9) (.tmp 22) rfl uB.heap.size 0 rfl [.string (m.tl++⟨#[32]⟩++m.ar),.slice none 0 0,.string (sumS (ofL (formR c t.data.toList)) W)] rfl (blk_some HAuD.out rfl) HOuD.out (by simp [Value.oneCell']) kr_ rfl ?_;clear hHeld;refine st_over (old:=[.string ⟨#[]⟩,.slice none 0 0,.string ⟨#[]⟩]) (N:=V.heap.size) rfl HAuD.out HOuD.out om_ ?_;intro E hbE ZE FE hsE hoE;have hE:=huD.trans hbE;have p1E:=(ZA.out.below hE om_) 1 _ rfl;have p2E:=(ZA.out.below hE om_) 2 _ rfl;have q0E:=(ZB.out.below hE om_) 0 _ rfl;have q1E:=(ZB.out.below hE om_) 1 _ rfl;refine hK.out _ _ ⟨p1E,p2E,q0E,q1E⟩ fun hHeld=>?_;clear hK K;refine wpAnyH_done kr_ ?_ _;exact TAIL uB.heap.size E hE om_ om_ ZE FE
 · go_simp
   have huA:Below V.heap.size V ((V.alloc (.cells #[.string ⟨#[]⟩,.slice none 0 0,.string ⟨#[]⟩] 96)).drew):=(hV.alloc hV.size _).drew;have HAuA:Hid (BlkAt ((V.alloc (.cells #[.string ⟨#[]⟩,.slice none 0 0,.string ⟨#[]⟩] 96)).drew) (w.heap.size+3) [.string ⟨#[]⟩,.slice none 0 0,.string ⟨#[]⟩]):=hz▸hI_ ((blk_new V [.string ⟨#[]⟩,.slice none 0 0,.string ⟨#[]⟩] 96).below (Below.refl (V.heap.size+1) _).drew om_);have HOuA:Hid (OpnAt ((V.alloc (.cells #[.string ⟨#[]⟩,.slice none 0 0,.string ⟨#[]⟩] 96)).drew) (w.heap.size+3)):=hz▸hI_ ((opn_new V ([.string ⟨#[]⟩,.slice none 0 0,.string ⟨#[]⟩]:List Value).toArray 96).below (Below.refl (V.heap.size+1) _).drew om_);have zuA:((V.alloc (.cells #[.string ⟨#[]⟩,.slice none 0 0,.string ⟨#[]⟩] 96)).drew).heap.size=V.heap.size+1:=sm_;have p1uA:=(ZA.out.below huA om_) 1 _ rfl;have p2uA:=(ZA.out.below huA om_) 2 _ rfl;have q0uA:=(ZB.out.below huA om_) 0 _ rfl;have q1uA:=(ZB.out.below huA om_) 1 _ rfl;clear hHeld;refine hK.out _ _ ?_ fun hHeld=>?_
   · exact ⟨p1uA,p2uA,q0uA,q1uA⟩
   clear hK K
   try simp only [qq]
   generalize ((V.alloc (.cells #[.string ⟨#[]⟩,.slice none 0 0,.string ⟨#[]⟩] 96)).drew)=uA at*;refine rq 7 fun K hK=>?_;go_simp;refine (c72 c t uA ht).mono ?_;rintro e uB ⟨rfl,hbn⟩;have huB:=bT_ huA hbn;have zuB:=hbn.size;have p1uB:=(ZA.out.below huB om_) 1 _ rfl;have p2uB:=(ZA.out.below huB om_) 2 _ rfl;have q0uB:=(ZB.out.below huB om_) 0 _ rfl;have q1uB:=(ZB.out.below huB om_) 1 _ rfl;have HAuB:=hI_ (HAuA.out.below hbn om_);have HOuB:=hI_ (HOuA.out.below hbn om_);clear HAuA HOuA;clear hbn;go_simp;clear hHeld;refine hK.out _ _ ?_ fun hHeld=>?_
   · exact ⟨p1uB,p2uB,q0uB,q1uB⟩
   clear hK K
   try simp only [qq]
   refine rq 9 fun K hK=>?_;go_simp;refine (c109 (ofL (formR c t.data.toList)) W uB hf).mono ?_;rintro e uC ⟨rfl,hbn⟩;have huC:=bT_ huB hbn;have zuC:=hbn.size;have p1uC:=(ZA.out.below huC om_) 1 _ rfl;have p2uC:=(ZA.out.below huC om_) 2 _ rfl;have q0uC:=(ZB.out.below huC om_) 0 _ rfl;have q1uC:=(ZB.out.below huC om_) 1 _ rfl;have HAuC:=hI_ (HAuB.out.below hbn om_);have HOuC:=hI_ (HOuB.out.below hbn om_);clear HAuB HOuB;clear hbn;go_simp;clear hHeld;refine hK.out _ _ ?_ fun hHeld=>?_
   · exact ⟨p1uC,p2uC,q0uC,q1uC⟩
   clear hK K
   try simp only [qq]
   refine tq 10 hHeld ?_
   try simp only [qq]
   refine rq 12 fun K hK=>?_;refine step_store_blk rfl 96 (.tmp 9) (.tmp 22) rfl (w.heap.size+3) 0 rfl [.string (m.tl++⟨#[32]⟩++m.ar),.slice none 0 0,.string (sumS (ofL (formR c t.data.toList)) W)] rfl (blk_some HAuC.out rfl) HOuC.out (by simp [Value.oneCell']) kr_ rfl ?_;clear hHeld;refine st_over (old:=[.string ⟨#[]⟩,.slice none 0 0,.string ⟨#[]⟩]) (N:=V.heap.size) rfl HAuC.out HOuC.out om_ ?_;intro E hbE ZE FE hsE hoE;have hE:=huC.trans hbE;have p1E:=(ZA.out.below hE om_) 1 _ rfl;have p2E:=(ZA.out.below hE om_) 2 _ rfl;have q0E:=(ZB.out.below hE om_) 0 _ rfl;have q1E:=(ZB.out.below hE om_) 1 _ rfl;refine hK.out _ _ ⟨p1E,p2E,q0E,q1E⟩ fun hHeld=>?_;clear hK K;refine wpAnyH_done kr_ ?_ _;exact TAIL (w.heap.size+3) E hE om_ om_ ZE FE
end Go.Proofs.YtlckdgjfniglfaaGreatDoor
