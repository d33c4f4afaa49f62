import Derived.Test.YtlckdgjfniglfaaGreatDoorK4
set_option linter.unusedVariables false
set_option maxHeartbeats 8000000
set_option maxRecDepth 100000
namespace Go.Proofs.YtlckdgjfniglfaaGreatDoor
open Proofs.Tryz
open Go.RowKit
def glC (W:Int) (ls:List L4):List Value:=ls.flatMap fun x=>[.bool x.has,.string x.nm,.string (sumS (glT x) W)]
theorem own_lt {u:World} {base e size n:Nat} {v:Value} {xs:List Value} (h:u.ownsRow base e size v n xs) {k:Nat} (hk:v.ownBlock=some k):k<u.heap.size:=by
 rcases h.2 with ⟨hv,_⟩ | ⟨g,cap,cur,hv,hg,hh,_⟩
 · subst hv;simp [Value.ownBlock] at hk
 · subst hv
   simp [Value.ownBlock] at hk;obtain rfl:=hk;exact (Array.getElem?_eq_some_iff.1 hh).1
theorem own_set {u:World} {base e size n:Nat} {v:Value} {xs:List Value} (h:u.ownsRow base e size v n xs) (p:Addr) (x:Value) (hp:p.block<base):(u.setCell p x).ownsRow base e size v n xs:=by
 refine ⟨h.1,h.2.imp id ?_⟩;rintro ⟨g,cap,cur,h1,h2,h3,h4⟩;exact ⟨g,cap,cur,h1,h2,(Below.heap_setCell _ _ _ _ om_).trans h3,h4⟩
theorem glC_snoc (W:Int) (l:List L4) (x:L4):glC W (l++[x])=glC W l++[.bool x.has,.string x.nm,.string (sumS (glT x) W)]:=by simp [glC]
theorem own_below {u u':World} {base e size n:Nat} {v:Value} {xs:List Value} (h:u.ownsRow base e size v n xs) (hb:Below u.heap.size u u'):u'.ownsRow base e size v n xs:=by
 refine ⟨h.1,h.2.imp id ?_⟩;rintro ⟨g,cap,cur,h1,h2,h3,h4⟩;exact ⟨g,cap,cur,h1,h2,(hb.block g (Array.getElem?_eq_some_iff.1 h3).1).trans h3,h4⟩
theorem own_other {u u':World} {R base e size n:Nat} {v:Value} {xs:List Value} (h:u.ownsRow base e size v n xs) (hs:u.heap.size<=u'.heap.size) (ho:∀ k,k<u.heap.size->k≠R->u'.heap[k]?=u.heap[k]?) (hR:R<base):u'.ownsRow base e size v n xs:=by
 refine ⟨h.1,h.2.imp id ?_⟩;rintro ⟨g,cap,cur,h1,h2,h3,h4⟩;exact ⟨g,cap,cur,h1,h2,(ho g (Array.getElem?_eq_some_iff.1 h3).1 om_).trans h3,h4⟩
theorem own_low {u:World} {base base' e size n:Nat} {v:Value} {xs:List Value} (h:u.ownsRow base e size v n xs) (hb:base'<=base):u.ownsRow base' e size v n xs:=by
 refine ⟨h.1,h.2.imp id ?_⟩;rintro ⟨g,cap,cur,h1,h2,h3,h4⟩;exact ⟨g,cap,cur,h1,Nat.le_trans hb h2,h3,h4⟩
theorem c92 (m:M3) (ls:List L4) (c:Int) (t:ByteArray) (W:Int) (H:Nat) (a:Option Addr) (cap:Nat) (w:World) (hm:m.le 1048600) (ht:t.size<=1048700) (hf:(ofL (formR c t.data.toList)).size<=1048700) (hl:ls.length<=1048576) (hs:∀ i,(ls.getD i l4z).tx.size<=1048600/\(glT (ls.getD i l4z)).size<=1048700) (hat:LksAt w a ls) (hH:H<w.heap.size) (hW:w.cell? ⟨H,0,none⟩=some (.int .i64 W)):
 Calls prog 92 #[.pointer (some ⟨H,0,none⟩),.agg #[.string m.nm,.string m.tl,.string m.ar],.slice a ls.length cap,.agg #[.int .i64 c,.string t]] w fun e w'=>(∃ v,e=.returned (.agg #[.string (keyR m),v,.string (sumS (ofL (formR c t.data.toList)) W)])/\w'.ownsRow w.heap.size 119 3 v ls.length (glC W ls))/\Below w.heap.size w w':=by
 have hB0:Below w.heap.size w (((w.alloc (.cells #[.string m.nm,.string m.tl,.string m.ar] 42)).alloc (.cells #[.int .i64 c,.string t] 45)).alloc (.cells #[.string ⟨#[]⟩,.slice none 0 0,.string ⟨#[]⟩] 96)):=(bA_.alloc sm_ _).alloc so_ _;have hz:(((w.alloc (.cells #[.string m.nm,.string m.tl,.string m.ar] 42)).alloc (.cells #[.int .i64 c,.string t] 45)).alloc (.cells #[.string ⟨#[]⟩,.slice none 0 0,.string ⟨#[]⟩] 96)).heap.size=w.heap.size+3:=sm_;have hV0:=(hB0.cell (p:=⟨H,0,none⟩) hH).trans hW;have ZA:Hid (BlkAt (((w.alloc (.cells #[.string m.nm,.string m.tl,.string m.ar] 42)).alloc (.cells #[.int .i64 c,.string t] 45)).alloc (.cells #[.string ⟨#[]⟩,.slice none 0 0,.string ⟨#[]⟩] 96)) w.heap.size [.string m.nm,.string m.tl,.string m.ar]):=fun j x hx=>by
  match j with
  | 0=>obtain rfl:=Option.some.inj hx;simp [go_sem]
  | 1=>obtain rfl:=Option.some.inj hx;simp [go_sem]
  | 2=>obtain rfl:=Option.some.inj hx;simp [go_sem]
  | j+3=>simp at hx
 have ZB:Hid (BlkAt (((w.alloc (.cells #[.string m.nm,.string m.tl,.string m.ar] 42)).alloc (.cells #[.int .i64 c,.string t] 45)).alloc (.cells #[.string ⟨#[]⟩,.slice none 0 0,.string ⟨#[]⟩] 96)) (w.heap.size+1) [.int .i64 c,.string t]):=fun j x hx=>by
  match j with
  | 0=>obtain rfl:=Option.some.inj hx;simp [go_sem]
  | 1=>obtain rfl:=Option.some.inj hx;simp [go_sem]
  | j+2=>simp at hx
 have ZR:Hid (BlkAt (((w.alloc (.cells #[.string m.nm,.string m.tl,.string m.ar] 42)).alloc (.cells #[.int .i64 c,.string t] 45)).alloc (.cells #[.string ⟨#[]⟩,.slice none 0 0,.string ⟨#[]⟩] 96)) (w.heap.size+2) [.string ⟨#[]⟩,.slice none 0 0,.string ⟨#[]⟩]):=fun j x hx=>by simp [go_sem,hx]
 have FR:Hid (OpnAt (((w.alloc (.cells #[.string m.nm,.string m.tl,.string m.ar] 42)).alloc (.cells #[.int .i64 c,.string t] 45)).alloc (.cells #[.string ⟨#[]⟩,.slice none 0 0,.string ⟨#[]⟩] 96)) (w.heap.size+2)):=fun j=>by simp [go_sem]
 have HL:=hI_ (lks_below hat hB0);clear hat;go_enter func92,ntmps92
 go_wp2_with fail
 generalize (((w.alloc (.cells #[.string m.nm,.string m.tl,.string m.ar] 42)).alloc (.cells #[.int .i64 c,.string t] 45)).alloc (.cells #[.string ⟨#[]⟩,.slice none 0 0,.string ⟨#[]⟩] 96))=V at*;rename_i K0 hK0;have TAIL:∀ (A:Nat) (E:World),Below V.heap.size V E->V.heap.size<=A->A<E.heap.size->BlkAt E A [.string (keyR m),.slice none 0 0,.string (sumS (ofL (formR c t.data.toList)) W)]->OpnAt E A->K0 { tmps:=#[.pointer (some ⟨H,0,none⟩),.agg #[.string m.nm,.string m.tl,.string m.ar],.slice a ls.length cap,.agg #[.int .i64 c,.string t],undef,.pointer (some ⟨w.heap.size,0,none⟩),undef,.pointer (some ⟨w.heap.size+1,0,none⟩),.pointer (some ⟨w.heap.size+2,0,none⟩),.pointer (some ⟨A,0,none⟩),undef,undef,.agg #[.string m.nm,.string m.tl,.string m.ar],.string (keyR m),.agg #[.int .i64 c,.string t],.string (ofL (formR c t.data.toList)),.pointer (some ⟨H,0,none⟩),.pointer (some ⟨H,0,none⟩),.pointer (some ⟨H,0,none⟩),.int .i64 W,.string (sumS (ofL (formR c t.data.toList)) W),.agg #[.string (keyR m),.slice none 0 0,.string (sumS (ofL (formR c t.data.toList)) W)],undef,undef,undef,undef,undef,undef,undef,undef,undef,undef,undef,undef,undef,undef,undef,undef],defers:=[] } E:=by
  intro A E hE hA1 hA2 hM hF;obtain ⟨i0,hi,hz0,hz1,hz2⟩:=info_parts' info119;have hsE:=hE.size;have hBE:=bT_ hB0 hE;have HZR:=hI_ (ZR.out.below hE om_);have HFR:=hI_ (FR.out.below hE om_);have fHE:=(hE.cell (p:=⟨H,0,none⟩) (show H<V.heap.size by omega)).trans hV0;have HM:=hI_ hM;have HFA:=hI_ hF;obtain ⟨b,off,hc⟩:=lks_some HL.out;have HC:=hI_ hc;clear hM hF hc ZA ZB ZR FR HL;refine hK0 _ _ ?_;clear hK0
  go_wp2_with fail
  go_loopw [24] (fun i wr=>∃ (k:Nat) (v:Value),k<=ls.length/\i=.int .i64 k/\Hid (BlkAt wr A [.string (keyR m),v,.string (sumS (ofL (formR c t.data.toList)) W)])/\Hid (OpnAt wr A)/\Hid (wr.ownsRow E.heap.size 119 3 v k (glC W (ls.take k)))/\But A E wr) (fun i _=>ls.length - (intOf i).toNat)
  case atStart=>exact ⟨0,.slice none 0 0,Nat.zero_le _,rfl,HM,HFA,World.ownsRow_nil _ _ _ _,But.refl _ _⟩
  case round=>
   obtain ⟨k,v,hk,rfl,HAr,HFr,HOr,BTr⟩:=hrel;obtain ⟨av,cv,rfl⟩:=row_form HOr.out;have szr:=BTr.size;by_cases hlt:k<ls.length
   · rcases HC.out with hss | ⟨ha,hbw,hcell⟩
     · rw [hss] at hlt;exact absurd hlt (Nat.not_lt_zero _)
     subst ha;have hbE:b<E.heap.size/\b≠A:=⟨om_,om_⟩;have g0:=(BTr.cell (p:=⟨b,off+k*4,none⟩) hbE.1 hbE.2).trans ((hE.cell (p:=⟨b,off+k*4,none⟩) hbw).trans (hcell k hlt).1);have g1:=(BTr.cell (p:=⟨b,off+k*4+1,none⟩) hbE.1 hbE.2).trans ((hE.cell (p:=⟨b,off+k*4+1,none⟩) hbw).trans (hcell k hlt).2.1);have g2:=(BTr.cell (p:=⟨b,off+k*4+2,none⟩) hbE.1 hbE.2).trans ((hE.cell (p:=⟨b,off+k*4+2,none⟩) hbw).trans (hcell k hlt).2.2.1);have g3:=(BTr.cell (p:=⟨b,off+k*4+3,none⟩) hbE.1 hbE.2).trans ((hE.cell (p:=⟨b,off+k*4+3,none⟩) hbw).trans (hcell k hlt).2.2.2);have HT:=hI_ (take_next hlt);have hxs:=hs k;have hDn:∀ q,(Value.slice av k cv).ownBlock=some q->q<wr.heap.size:=fun q hq=>own_lt HOr.out hq;clear hcell;generalize ls.getD k l4z=x at*;have hbA:Below wr.heap.size wr (wr.alloc (.cells #[.bool x.has,.string x.nm,.int .i64 x.cd,.string x.tx] 74)):=bA_;have szA:(wr.alloc (.cells #[.bool x.has,.string x.nm,.int .i64 x.cd,.string x.tx] 74)).heap.size=wr.heap.size+1:=sm_;have HAA:=hI_ (HAr.out.below hbA om_);have HFA':=hI_ (HFr.out.below hbA om_);have HOA:=hI_ (own_below HOr.out hbA);have BTA:=BTr.trans (But.of_below hbA);have e0A:=blk_new wr [.bool x.has,.string x.nm,.int .i64 x.cd,.string x.tx] 74 0 _ rfl;have e1A:=blk_new wr [.bool x.has,.string x.nm,.int .i64 x.cd,.string x.tx] 74 1 _ rfl;have e2A:=blk_new wr [.bool x.has,.string x.nm,.int .i64 x.cd,.string x.tx] 74 2 _ rfl;have e3A:=blk_new wr [.bool x.has,.string x.nm,.int .i64 x.cd,.string x.tx] 74 3 _ rfl
     go_wp2_with fail
     clear g0 g1 g2 g3 HAr HFr HOr;generalize (wr.alloc (.cells #[.bool x.has,.string x.nm,.int .i64 x.cd,.string x.tx] 74))=uA at*;have hbd:Below uA.heap.size uA uA.drew:=(Below.refl _ _).drew;have HFA:=HFA';have szD0:=hbd.size;have HAD0:=hI_ (HAA.out.below hbd om_);have HFD0:=hI_ (HFA.out.below hbd om_);have HOD0:=hI_ (own_below HOA.out hbd);have BTD0:=BTA.trans (But.of_below hbd);have e0D0:=(hbd.cell (p:=⟨wr.heap.size,0,none⟩) (show wr.heap.size<_ by omega)).trans e0A;have e1D0:=(hbd.cell (p:=⟨wr.heap.size,1,none⟩) (show wr.heap.size<_ by omega)).trans e1A;have e2D0:=(hbd.cell (p:=⟨wr.heap.size,2,none⟩) (show wr.heap.size<_ by omega)).trans e2A;have e3D0:=(hbd.cell (p:=⟨wr.heap.size,3,none⟩) (show wr.heap.size<_ by omega)).trans e3A;have yD0:=HAD0.out 1 _ rfl;have fHD0:=(BTD0.cell (p:=⟨H,0,none⟩) (show H<E.heap.size by omega) (show H≠A by omega)).trans fHE;clear HAA HFA' HOA hbd;refine wp_region_held_drew (S:=(fun u=>u.cell? ⟨wr.heap.size,0,none⟩=some (.bool x.has)/\u.cell? ⟨wr.heap.size,1,none⟩=some (.string x.nm)/\u.cell? ⟨wr.heap.size,2,none⟩=some (.int .i64 x.cd)/\u.cell? ⟨wr.heap.size,3,none⟩=some (.string x.tx))) kr_ ?_ fun hHeld=>?_
     · exact ⟨e0D0,e1D0,e2D0,e3D0⟩
     refine tq 0 hHeld ?_
     try simp only [qq]
     refine tq 2 hHeld ?_
     try simp only [qq]
     refine tq 3 hHeld ?_
     try simp only [qq]
     refine wpAnyH_ready (rs:=[1,4]) kr_ sm_ ?_;refine AllReadyH.cons (o:=⟨some 29,.load 94 (.tmp 28),94,_,_,none⟩) rfl (fun K hK=>?_) (AllReadyH.cons (o:=⟨some 32,.call ⟨.value (.func 132),#[.tmp 30,.tmp 31],#[52,74]⟩,119,_,_,none⟩) rfl (fun K hK=>?_) AllReadyH.nil)
     · go_simp
       clear hHeld;refine hK.out _ _ ?_ fun hHeld=>?_
       · exact ⟨e0D0,e1D0,e2D0,e3D0⟩
       clear hK K
       try simp only [qq]
       refine rq 4 fun K hK=>?_;go_simp;refine (c132 x W H uA.drew hxs.1 om_ fHD0 hxs.2).mono ?_;rintro e u1 ⟨rfl,hbn⟩;have szu1:=hbn.size;have HAu1:=hI_ (HAD0.out.below hbn om_);have HFu1:=hI_ (HFD0.out.below hbn om_);have HOu1:=hI_ (own_below HOD0.out hbn);have BTu1:=BTD0.trans (But.of_below hbn);have e0u1:=(hbn.cell (p:=⟨wr.heap.size,0,none⟩) (show wr.heap.size<_ by omega)).trans e0D0;have e1u1:=(hbn.cell (p:=⟨wr.heap.size,1,none⟩) (show wr.heap.size<_ by omega)).trans e1D0;have e2u1:=(hbn.cell (p:=⟨wr.heap.size,2,none⟩) (show wr.heap.size<_ by omega)).trans e2D0;have e3u1:=(hbn.cell (p:=⟨wr.heap.size,3,none⟩) (show wr.heap.size<_ by omega)).trans e3D0;have yu1:=HAu1.out 1 _ rfl;have fHu1:=(BTu1.cell (p:=⟨H,0,none⟩) (show H<E.heap.size by omega) (show H≠A by omega)).trans fHE;clear hbn HAD0 HFD0 HOD0;go_simp;clear hHeld;refine hK.out _ _ ?_ fun hHeld=>?_
       · exact ⟨e0u1,e1u1,e2u1,e3u1⟩
       clear hK K
       try simp only [qq]
       refine rq 5 fun K hK=>?_;go_simp;have hbn:Below u1.heap.size u1 (u1.alloc (.cells #[.bool x.has,.string x.nm,.string (sumS (glT x) W)] 119)):=bA_;have szq:(u1.alloc (.cells #[.bool x.has,.string x.nm,.string (sumS (glT x) W)] 119)).heap.size=u1.heap.size+1:=sm_;have szu2:=hbn.size;have HAu2:=hI_ (HAu1.out.below hbn om_);have HFu2:=hI_ (HFu1.out.below hbn om_);have HOu2:=hI_ (own_below HOu1.out hbn);have BTu2:=BTu1.trans (But.of_below hbn);have e0u2:=(hbn.cell (p:=⟨wr.heap.size,0,none⟩) (show wr.heap.size<_ by omega)).trans e0u1;have e1u2:=(hbn.cell (p:=⟨wr.heap.size,1,none⟩) (show wr.heap.size<_ by omega)).trans e1u1;have e2u2:=(hbn.cell (p:=⟨wr.heap.size,2,none⟩) (show wr.heap.size<_ by omega)).trans e2u1;have e3u2:=(hbn.cell (p:=⟨wr.heap.size,3,none⟩) (show wr.heap.size<_ by omega)).trans e3u1;have yu2:=HAu2.out 1 _ rfl;have fHu2:=(BTu2.cell (p:=⟨H,0,none⟩) (show H<E.heap.size by omega) (show H≠A by omega)).trans fHE;have HR:Hid (∀ j u,([.bool x.has,.string x.nm,.string (sumS (glT x) W)]:List Value)[j]?=some u->(u1.alloc (.cells #[.bool x.has,.string x.nm,.string (sumS (glT x) W)] 119)).cell? ((⟨u1.heap.size,0,none⟩:Addr).add j)=some u):=fun j q hj=>by
        rw [adr_add,Nat.zero_add];exact blk_new u1 [.bool x.has,.string x.nm,.string (sumS (glT x) W)] 119 j q hj
       clear hbn HAu1 HFu1 HOu1;clear hHeld;refine hK.out _ _ ?_ fun hHeld=>?_
       · exact ⟨e0u2,e1u2,e2u2,e3u2⟩
       clear hK K
       try simp only [qq]
       generalize (u1.alloc (.cells #[.bool x.has,.string x.nm,.string (sumS (glT x) W)] 119))=u2 at*;refine rq 6 fun K hK=>?_;refine step_app rfl (.tmp 29) (.tmp 33) 94 rfl E.heap.size 119 i0 (.agg #[.bool false,.string ⟨#[]⟩,.string ⟨#[]⟩]) 3 40 underlying94 hi hz0 hz1 hz2 rfl dc_ (.slice av k cv) k (glC W (ls.take k)) rfl HOu2.out ⟨u1.heap.size,0,none⟩ 1 1 [.bool x.has,.string x.nm,.string (sumS (glT x) W)] rfl rfl HR.out (by simp [Value.oneCell']) (by unfold maxLen;omega) om_ om_ ?_;intro v' w6 hO6 hgrow;obtain ⟨a6,c906,rfl⟩:=row_form hO6;have hb6:Below E.heap.size u2 w6:=(Below.refl _ _).grown hgrow om_ (fun q hq=>own_blk HOu2.out hq);have s6:=hb6.size;have hD6:w6.heap[wr.heap.size]?=u2.heap[wr.heap.size]?:=hgrow.block wr.heap.size om_ (fun h=>by have:=hDn wr.heap.size h.symm;omega);have HO6:=hI_ hO6;have HA6:=hI_ (HAu2.out.below hb6 hA2);have HF6:=hI_ (HFu2.out.below hb6 hA2);have BT6:But A E w6:=⟨hb6.os.trans BTu2.os,hb6.tape.trans BTu2.tape,hb6.output.trans BTu2.output,om_,fun q hq hne=>(hb6.block q hq).trans (BTu2.block q hq hne)⟩;have y6:=HA6.out 1 _ rfl;have f6:=HF6.out 1;have e06:=(World.cell?_of_block (a:=⟨wr.heap.size,0,none⟩) hD6).trans e0u2;have e16:=(World.cell?_of_block (a:=⟨wr.heap.size,1,none⟩) hD6).trans e1u2;have e26:=(World.cell?_of_block (a:=⟨wr.heap.size,2,none⟩) hD6).trans e2u2;have e36:=(World.cell?_of_block (a:=⟨wr.heap.size,3,none⟩) hD6).trans e3u2;clear hO6 HR hgrow hb6;clear hHeld;refine hK.out _ _ ?_ fun hHeld=>?_
       · exact ⟨e06,e16,e26,e36⟩
       clear hK K
       try simp only [qq]
       refine tq 7 hHeld ?_
       try simp only [qq]
       refine rq 8 fun K hK=>?_;go_simp;have HA7:Hid (BlkAt (w6.setCell ⟨A,1,none⟩ (.slice a6 (k+1) c906)) A [.string (keyR m),.slice a6 (k+1) c906,.string (sumS (ofL (formR c t.data.toList)) W)]):=HA6.out.set 1 _ sm_;have HF7:Hid (OpnAt (w6.setCell ⟨A,1,none⟩ (.slice a6 (k+1) c906)) A):=HF6.out.set _ _;have HO7:Hid ((w6.setCell ⟨A,1,none⟩ (.slice a6 (k+1) c906)).ownsRow E.heap.size 119 3 (.slice a6 (k+1) c906) (k+1) (glC W (ls.take (k+1)))):=by
        show World.ownsRow _ _ _ _ _ _ _;rw [HT.out,glC_snoc];exact own_set HO6.out _ _ (by show A<_;omega)
       have BT7:But A E (w6.setCell ⟨A,1,none⟩ (.slice a6 (k+1) c906)):=BT6.setCell 1 _;have e07:(w6.setCell ⟨A,1,none⟩ (.slice a6 (k+1) c906)).cell? ⟨wr.heap.size,0,none⟩=some _:=(World.cell?_setCell_other _ _ _ _ (fun h=>by injection h;omega)).trans e06;have e17:(w6.setCell ⟨A,1,none⟩ (.slice a6 (k+1) c906)).cell? ⟨wr.heap.size,1,none⟩=some _:=(World.cell?_setCell_other _ _ _ _ (fun h=>by injection h;omega)).trans e16;have e27:(w6.setCell ⟨A,1,none⟩ (.slice a6 (k+1) c906)).cell? ⟨wr.heap.size,2,none⟩=some _:=(World.cell?_setCell_other _ _ _ _ (fun h=>by injection h;omega)).trans e26;have e37:(w6.setCell ⟨A,1,none⟩ (.slice a6 (k+1) c906)).cell? ⟨wr.heap.size,3,none⟩=some _:=(World.cell?_setCell_other _ _ _ _ (fun h=>by injection h;omega)).trans e36;clear hHeld;refine hK.out _ _ ?_ fun hHeld=>?_
       · exact ⟨e07,e17,e27,e37⟩
       clear hK K
       try simp only [qq]
       generalize (w6.setCell ⟨A,1,none⟩ (.slice a6 (k+1) c906))=w7 at*;refine wpAnyH_done kr_ ?_ _;go_wp2;go_roundw
       case rel=>exact ⟨k+1,.slice a6 (k+1) c906,om_,by go_num,HA7,HF7,HO7,BT7⟩
       case measure=>simp [intOf];omega
     · go_simp
       refine (c132 x W H uA.drew hxs.1 om_ fHD0 hxs.2).mono ?_;rintro e u1 ⟨rfl,hbn⟩;have szu1:=hbn.size;have HAu1:=hI_ (HAD0.out.below hbn om_);have HFu1:=hI_ (HFD0.out.below hbn om_);have HOu1:=hI_ (own_below HOD0.out hbn);have BTu1:=BTD0.trans (But.of_below hbn);have e0u1:=(hbn.cell (p:=⟨wr.heap.size,0,none⟩) (show wr.heap.size<_ by omega)).trans e0D0;have e1u1:=(hbn.cell (p:=⟨wr.heap.size,1,none⟩) (show wr.heap.size<_ by omega)).trans e1D0;have e2u1:=(hbn.cell (p:=⟨wr.heap.size,2,none⟩) (show wr.heap.size<_ by omega)).trans e2D0;have e3u1:=(hbn.cell (p:=⟨wr.heap.size,3,none⟩) (show wr.heap.size<_ by omega)).trans e3D0;have yu1:=HAu1.out 1 _ rfl;have fHu1:=(BTu1.cell (p:=⟨H,0,none⟩) (show H<E.heap.size by omega) (show H≠A by omega)).trans fHE;clear hbn HAD0 HFD0 HOD0;go_simp;clear hHeld;refine hK.out _ _ ?_ fun hHeld=>?_
       · exact ⟨e0u1,e1u1,e2u1,e3u1⟩
       clear hK K
       try simp only [qq]
       refine wpAnyH_ready (rs:=[1,5]) kr_ sm_ ?_;refine AllReadyH.cons (o:=⟨some 29,.load 94 (.tmp 28),94,_,_,none⟩) rfl (fun K hK=>?_) (AllReadyH.cons (o:=⟨some 33,.buildSlice 94 1 #[(0,.tmp 32)],94,_,_,none⟩) rfl (fun K hK=>?_) AllReadyH.nil)
       · go_simp
         clear hHeld;refine hK.out _ _ ?_ fun hHeld=>?_
         · exact ⟨e0u1,e1u1,e2u1,e3u1⟩
         clear hK K
         try simp only [qq]
         refine rq 5 fun K hK=>?_;go_simp;have hbn:Below u1.heap.size u1 (u1.alloc (.cells #[.bool x.has,.string x.nm,.string (sumS (glT x) W)] 119)):=bA_;have szq:(u1.alloc (.cells #[.bool x.has,.string x.nm,.string (sumS (glT x) W)] 119)).heap.size=u1.heap.size+1:=sm_;have szu2:=hbn.size;have HAu2:=hI_ (HAu1.out.below hbn om_);have HFu2:=hI_ (HFu1.out.below hbn om_);have HOu2:=hI_ (own_below HOu1.out hbn);have BTu2:=BTu1.trans (But.of_below hbn);have e0u2:=(hbn.cell (p:=⟨wr.heap.size,0,none⟩) (show wr.heap.size<_ by omega)).trans e0u1;have e1u2:=(hbn.cell (p:=⟨wr.heap.size,1,none⟩) (show wr.heap.size<_ by omega)).trans e1u1;have e2u2:=(hbn.cell (p:=⟨wr.heap.size,2,none⟩) (show wr.heap.size<_ by omega)).trans e2u1;have e3u2:=(hbn.cell (p:=⟨wr.heap.size,3,none⟩) (show wr.heap.size<_ by omega)).trans e3u1;have yu2:=HAu2.out 1 _ rfl;have fHu2:=(BTu2.cell (p:=⟨H,0,none⟩) (show H<E.heap.size by omega) (show H≠A by omega)).trans fHE;have HR:Hid (∀ j u,([.bool x.has,.string x.nm,.string (sumS (glT x) W)]:List Value)[j]?=some u->(u1.alloc (.cells #[.bool x.has,.string x.nm,.string (sumS (glT x) W)] 119)).cell? ((⟨u1.heap.size,0,none⟩:Addr).add j)=some u):=fun j q hj=>by
          rw [adr_add,Nat.zero_add];exact blk_new u1 [.bool x.has,.string x.nm,.string (sumS (glT x) W)] 119 j q hj
         clear hbn HAu1 HFu1 HOu1;clear hHeld;refine hK.out _ _ ?_ fun hHeld=>?_
         · exact ⟨e0u2,e1u2,e2u2,e3u2⟩
         clear hK K
         try simp only [qq]
         generalize (u1.alloc (.cells #[.bool x.has,.string x.nm,.string (sumS (glT x) W)] 119))=u2 at*;refine rq 6 fun K hK=>?_;refine step_app rfl (.tmp 29) (.tmp 33) 94 rfl E.heap.size 119 i0 (.agg #[.bool false,.string ⟨#[]⟩,.string ⟨#[]⟩]) 3 40 underlying94 hi hz0 hz1 hz2 rfl dc_ (.slice av k cv) k (glC W (ls.take k)) rfl HOu2.out ⟨u1.heap.size,0,none⟩ 1 1 [.bool x.has,.string x.nm,.string (sumS (glT x) W)] rfl rfl HR.out (by simp [Value.oneCell']) (by unfold maxLen;omega) om_ om_ ?_;intro v' w6 hO6 hgrow;obtain ⟨a6,c906,rfl⟩:=row_form hO6;have hb6:Below E.heap.size u2 w6:=(Below.refl _ _).grown hgrow om_ (fun q hq=>own_blk HOu2.out hq);have s6:=hb6.size;have hD6:w6.heap[wr.heap.size]?=u2.heap[wr.heap.size]?:=hgrow.block wr.heap.size om_ (fun h=>by have:=hDn wr.heap.size h.symm;omega);have HO6:=hI_ hO6;have HA6:=hI_ (HAu2.out.below hb6 hA2);have HF6:=hI_ (HFu2.out.below hb6 hA2);have BT6:But A E w6:=⟨hb6.os.trans BTu2.os,hb6.tape.trans BTu2.tape,hb6.output.trans BTu2.output,om_,fun q hq hne=>(hb6.block q hq).trans (BTu2.block q hq hne)⟩;have y6:=HA6.out 1 _ rfl;have f6:=HF6.out 1;have e06:=(World.cell?_of_block (a:=⟨wr.heap.size,0,none⟩) hD6).trans e0u2;have e16:=(World.cell?_of_block (a:=⟨wr.heap.size,1,none⟩) hD6).trans e1u2;have e26:=(World.cell?_of_block (a:=⟨wr.heap.size,2,none⟩) hD6).trans e2u2;have e36:=(World.cell?_of_block (a:=⟨wr.heap.size,3,none⟩) hD6).trans e3u2;clear hO6 HR hgrow hb6;clear hHeld;refine hK.out _ _ ?_ fun hHeld=>?_
         · exact ⟨e06,e16,e26,e36⟩
         clear hK K
         try simp only [qq]
         refine tq 7 hHeld ?_
         try simp only [qq]
         refine rq 8 fun K hK=>?_;go_simp;have HA7:Hid (BlkAt (w6.setCell ⟨A,1,none⟩ (.slice a6 (k+1) c906)) A [.string (keyR m),.slice a6 (k+1) c906,.string (sumS (ofL (formR c t.data.toList)) W)]):=HA6.out.set 1 _ sm_;have HF7:Hid (OpnAt (w6.setCell ⟨A,1,none⟩ (.slice a6 (k+1) c906)) A):=HF6.out.set _ _;have HO7:Hid ((w6.setCell ⟨A,1,none⟩ (.slice a6 (k+1) c906)).ownsRow E.heap.size 119 3 (.slice a6 (k+1) c906) (k+1) (glC W (ls.take (k+1)))):=by
          show World.ownsRow _ _ _ _ _ _ _;rw [HT.out,glC_snoc];exact own_set HO6.out _ _ (by show A<_;omega)
         have BT7:But A E (w6.setCell ⟨A,1,none⟩ (.slice a6 (k+1) c906)):=BT6.setCell 1 _;have e07:(w6.setCell ⟨A,1,none⟩ (.slice a6 (k+1) c906)).cell? ⟨wr.heap.size,0,none⟩=some _:=(World.cell?_setCell_other _ _ _ _ (fun h=>by injection h;omega)).trans e06;have e17:(w6.setCell ⟨A,1,none⟩ (.slice a6 (k+1) c906)).cell? ⟨wr.heap.size,1,none⟩=some _:=(World.cell?_setCell_other _ _ _ _ (fun h=>by injection h;omega)).trans e16;have e27:(w6.setCell ⟨A,1,none⟩ (.slice a6 (k+1) c906)).cell? ⟨wr.heap.size,2,none⟩=some _:=(World.cell?_setCell_other _ _ _ _ (fun h=>by injection h;omega)).trans e26;have e37:(w6.setCell ⟨A,1,none⟩ (.slice a6 (k+1) c906)).cell? ⟨wr.heap.size,3,none⟩=some _:=(World.cell?_setCell_other _ _ _ _ (fun h=>by injection h;omega)).trans e36;clear hHeld;refine hK.out _ _ ?_ fun hHeld=>?_
         · exact ⟨e07,e17,e27,e37⟩
         clear hK K
         try simp only [qq]
         generalize (w6.setCell ⟨A,1,none⟩ (.slice a6 (k+1) c906))=w7 at*;refine wpAnyH_done kr_ ?_ _;go_wp2;go_roundw
         case rel=>exact ⟨k+1,.slice a6 (k+1) c906,om_,by go_num,HA7,HF7,HO7,BT7⟩
         case measure=>simp [intOf];omega
       · go_simp
         have hbn:Below u1.heap.size u1 (u1.alloc (.cells #[.bool x.has,.string x.nm,.string (sumS (glT x) W)] 119)):=bA_;have szq:(u1.alloc (.cells #[.bool x.has,.string x.nm,.string (sumS (glT x) W)] 119)).heap.size=u1.heap.size+1:=sm_;have szu2:=hbn.size;have HAu2:=hI_ (HAu1.out.below hbn om_);have HFu2:=hI_ (HFu1.out.below hbn om_);have HOu2:=hI_ (own_below HOu1.out hbn);have BTu2:=BTu1.trans (But.of_below hbn);have e0u2:=(hbn.cell (p:=⟨wr.heap.size,0,none⟩) (show wr.heap.size<_ by omega)).trans e0u1;have e1u2:=(hbn.cell (p:=⟨wr.heap.size,1,none⟩) (show wr.heap.size<_ by omega)).trans e1u1;have e2u2:=(hbn.cell (p:=⟨wr.heap.size,2,none⟩) (show wr.heap.size<_ by omega)).trans e2u1;have e3u2:=(hbn.cell (p:=⟨wr.heap.size,3,none⟩) (show wr.heap.size<_ by omega)).trans e3u1;have yu2:=HAu2.out 1 _ rfl;have fHu2:=(BTu2.cell (p:=⟨H,0,none⟩) (show H<E.heap.size by omega) (show H≠A by omega)).trans fHE;have HR:Hid (∀ j u,([.bool x.has,.string x.nm,.string (sumS (glT x) W)]:List Value)[j]?=some u->(u1.alloc (.cells #[.bool x.has,.string x.nm,.string (sumS (glT x) W)] 119)).cell? ((⟨u1.heap.size,0,none⟩:Addr).add j)=some u):=fun j q hj=>by
          rw [adr_add,Nat.zero_add];exact blk_new u1 [.bool x.has,.string x.nm,.string (sumS (glT x) W)] 119 j q hj
         clear hbn HAu1 HFu1 HOu1;clear hHeld;refine hK.out _ _ ?_ fun hHeld=>?_
         · exact ⟨e0u2,e1u2,e2u2,e3u2⟩
         clear hK K
         try simp only [qq]
         generalize (u1.alloc (.cells #[.bool x.has,.string x.nm,.string (sumS (glT x) W)] 119))=u2 at*;refine rq 1 fun K hK=>?_;go_simp;clear hHeld;refine hK.out _ _ ?_ fun hHeld=>?_
         · exact ⟨e0u2,e1u2,e2u2,e3u2⟩
         clear hK K
         try simp only [qq]
         refine rq 6 fun K hK=>?_;refine step_app rfl (.tmp 29) (.tmp 33) 94 rfl E.heap.size 119 i0 (.agg #[.bool false,.string ⟨#[]⟩,.string ⟨#[]⟩]) 3 40 underlying94 hi hz0 hz1 hz2 rfl dc_ (.slice av k cv) k (glC W (ls.take k)) rfl HOu2.out ⟨u1.heap.size,0,none⟩ 1 1 [.bool x.has,.string x.nm,.string (sumS (glT x) W)] rfl rfl HR.out (by simp [Value.oneCell']) (by unfold maxLen;omega) om_ om_ ?_;intro v' w6 hO6 hgrow;obtain ⟨a6,c906,rfl⟩:=row_form hO6;have hb6:Below E.heap.size u2 w6:=(Below.refl _ _).grown hgrow om_ (fun q hq=>own_blk HOu2.out hq);have s6:=hb6.size;have hD6:w6.heap[wr.heap.size]?=u2.heap[wr.heap.size]?:=hgrow.block wr.heap.size om_ (fun h=>by have:=hDn wr.heap.size h.symm;omega);have HO6:=hI_ hO6;have HA6:=hI_ (HAu2.out.below hb6 hA2);have HF6:=hI_ (HFu2.out.below hb6 hA2);have BT6:But A E w6:=⟨hb6.os.trans BTu2.os,hb6.tape.trans BTu2.tape,hb6.output.trans BTu2.output,om_,fun q hq hne=>(hb6.block q hq).trans (BTu2.block q hq hne)⟩;have y6:=HA6.out 1 _ rfl;have f6:=HF6.out 1;have e06:=(World.cell?_of_block (a:=⟨wr.heap.size,0,none⟩) hD6).trans e0u2;have e16:=(World.cell?_of_block (a:=⟨wr.heap.size,1,none⟩) hD6).trans e1u2;have e26:=(World.cell?_of_block (a:=⟨wr.heap.size,2,none⟩) hD6).trans e2u2;have e36:=(World.cell?_of_block (a:=⟨wr.heap.size,3,none⟩) hD6).trans e3u2;clear hO6 HR hgrow hb6;clear hHeld;refine hK.out _ _ ?_ fun hHeld=>?_
         · exact ⟨e06,e16,e26,e36⟩
         clear hK K
         try simp only [qq]
         refine tq 7 hHeld ?_
         try simp only [qq]
         refine rq 8 fun K hK=>?_;go_simp;have HA7:Hid (BlkAt (w6.setCell ⟨A,1,none⟩ (.slice a6 (k+1) c906)) A [.string (keyR m),.slice a6 (k+1) c906,.string (sumS (ofL (formR c t.data.toList)) W)]):=HA6.out.set 1 _ sm_;have HF7:Hid (OpnAt (w6.setCell ⟨A,1,none⟩ (.slice a6 (k+1) c906)) A):=HF6.out.set _ _;have HO7:Hid ((w6.setCell ⟨A,1,none⟩ (.slice a6 (k+1) c906)).ownsRow E.heap.size 119 3 (.slice a6 (k+1) c906) (k+1) (glC W (ls.take (k+1)))):=by
          show World.ownsRow _ _ _ _ _ _ _;rw [HT.out,glC_snoc];exact own_set HO6.out _ _ (by show A<_;omega)
         have BT7:But A E (w6.setCell ⟨A,1,none⟩ (.slice a6 (k+1) c906)):=BT6.setCell 1 _;have e07:(w6.setCell ⟨A,1,none⟩ (.slice a6 (k+1) c906)).cell? ⟨wr.heap.size,0,none⟩=some _:=(World.cell?_setCell_other _ _ _ _ (fun h=>by injection h;omega)).trans e06;have e17:(w6.setCell ⟨A,1,none⟩ (.slice a6 (k+1) c906)).cell? ⟨wr.heap.size,1,none⟩=some _:=(World.cell?_setCell_other _ _ _ _ (fun h=>by injection h;omega)).trans e16;have e27:(w6.setCell ⟨A,1,none⟩ (.slice a6 (k+1) c906)).cell? ⟨wr.heap.size,2,none⟩=some _:=(World.cell?_setCell_other _ _ _ _ (fun h=>by injection h;omega)).trans e26;have e37:(w6.setCell ⟨A,1,none⟩ (.slice a6 (k+1) c906)).cell? ⟨wr.heap.size,3,none⟩=some _:=(World.cell?_setCell_other _ _ _ _ (fun h=>by injection h;omega)).trans e36;clear hHeld;refine hK.out _ _ ?_ fun hHeld=>?_
         · exact ⟨e07,e17,e27,e37⟩
         clear hK K
         try simp only [qq]
         generalize (w6.setCell ⟨A,1,none⟩ (.slice a6 (k+1) c906))=w7 at*;refine wpAnyH_done kr_ ?_ _;go_wp2;go_roundw
         case rel=>exact ⟨k+1,.slice a6 (k+1) c906,om_,by go_num,HA7,HF7,HO7,BT7⟩
         case measure=>simp [intOf];omega
   · obtain rfl:k=ls.length:=om_
     have Z7:Hid (BlkAt wr (w.heap.size+2) [.string ⟨#[]⟩,.slice none 0 0,.string ⟨#[]⟩]):=fun j q hq=>(BTr.cell (p:=⟨w.heap.size+2,j,none⟩) (show w.heap.size+2<E.heap.size by omega) (show w.heap.size+2≠A by omega)).trans (HZR.out j q hq);have F7:Hid (OpnAt wr (w.heap.size+2)):=fun j=>(World.frozen?_of_block (a:=⟨w.heap.size+2,j,none⟩) (BTr.block (w.heap.size+2) om_ om_)).trans (HFR.out j);have hB7:Below w.heap.size w wr:=hBE.trans (BTr.below om_ om_)
     go_wp2_with (first | refine wpList_load_blk rfl 96 (.tmp 9) rfl A rfl _ _ HAr.out underlying96 rfl kr_ ?_ | refine wpList_store_blk rfl 96 (.tmp 8) (.tmp 37) rfl (w.heap.size+2) 0 rfl _ rfl (blk_some Z7.out rfl) F7.out (by simp [Value.oneCell']) kr_ rfl ?_)
     refine st_over (old:=[.string ⟨#[]⟩,.slice none 0 0,.string ⟨#[]⟩]) (N:=w.heap.size+2) rfl Z7.out F7.out lr_ ?_;intro E' hbE' ZE' FE' hsE' hoE';refine bodyPost_ret (v:=.agg ([.string (keyR m),.slice av ls.length cv,.string (sumS (ofL (formR c t.data.toList)) W)]:List Value).toArray) (results_blk (P:=prog) (ty:=96) rfl _ E' (w.heap.size+2) [.string (keyR m),.slice av ls.length cv,.string (sumS (ofL (formR c t.data.toList)) W)] _ rfl ZE' underlying96 rfl kr_) rfl ⟨⟨_,rfl,?_⟩,hB7.trans (hbE'.mono om_)⟩;have hO7:=HOr.out;rw [List.take_length] at hO7;exact own_low (own_other hO7 hsE' (fun q hq hne=>hoE' q hq hne) om_) om_
 have hV:Below V.heap.size V V:=Below.refl _ _;have hVdrew:Below V.heap.size V V.drew:=(Below.refl _ _).drew;have p0Vd:=(ZA.out.below hVdrew om_) 0 _ rfl;have p1Vd:=(ZA.out.below hVdrew om_) 1 _ rfl;have p2Vd:=(ZA.out.below hVdrew om_) 2 _ rfl;have q0Vd:=(ZB.out.below hVdrew om_) 0 _ rfl;have q1Vd:=(ZB.out.below hVdrew om_) 1 _ rfl;have pHVd:=(hVdrew.cell (p:=⟨H,0,none⟩) (show H<V.heap.size by omega)).trans hV0;refine wp_region_held_drew (S:=(fun u=>u.cell? ⟨w.heap.size,0,none⟩=some (.string m.nm)/\u.cell? ⟨w.heap.size,1,none⟩=some (.string m.tl)/\u.cell? ⟨w.heap.size,2,none⟩=some (.string m.ar)/\u.cell? ⟨w.heap.size+1,0,none⟩=some (.int .i64 c)/\u.cell? ⟨w.heap.size+1,1,none⟩=some (.string t)/\u.cell? ⟨H,0,none⟩=some (.int .i64 W))) kr_ ?_ fun hHeld=>?_
 · exact ⟨p0Vd,p1Vd,p2Vd,q0Vd,q1Vd,pHVd⟩
 refine tq 0 hHeld ?_
 try simp only [qq]
 refine tq 2 hHeld ?_
 try simp only [qq]
 refine tq 4 hHeld ?_
 try simp only [qq]
 refine tq 5 hHeld ?_
 try simp only [qq]
 refine tq 6 hHeld ?_
 try simp only [qq]
 refine tq 7 hHeld ?_
 try simp only [qq]
 refine wpAnyH_ready (rs:=[1,10]) kr_ sm_ ?_;refine AllReadyH.cons (o:=⟨some 13,.call ⟨.value (.func 131),#[.tmp 12],#[42]⟩,9,_,_,none⟩) rfl (fun K hK=>?_) (AllReadyH.cons (o:=⟨some 9,.alloc 96,0,_,_,none⟩) rfl (fun K hK=>?_) AllReadyH.nil)
 · go_simp
   refine (c131 m V.drew hm).mono ?_;rintro e uB ⟨rfl,hbn⟩;have huB:=bT_ hVdrew hbn;have zuB:=hbn.size;have p0uB:=(ZA.out.below huB om_) 0 _ rfl;have p1uB:=(ZA.out.below huB om_) 1 _ rfl;have p2uB:=(ZA.out.below huB om_) 2 _ rfl;have q0uB:=(ZB.out.below huB om_) 0 _ rfl;have q1uB:=(ZB.out.below huB om_) 1 _ rfl;have pHuB:=(huB.cell (p:=⟨H,0,none⟩) (show H<V.heap.size by omega)).trans hV0;clear hbn;go_simp;clear hHeld;refine hK.out _ _ ?_ fun hHeld=>?_
   · exact ⟨p0uB,p1uB,p2uB,q0uB,q1uB,pHuB⟩
   clear hK K
   try simp only [qq]
   refine wpAnyH_ready (rs:=[3,10]) kr_ sm_ ?_;refine AllReadyH.cons (o:=⟨some 15,.call ⟨.value (.func 130),#[.tmp 14],#[45]⟩,9,_,_,none⟩) rfl (fun K hK=>?_) (AllReadyH.cons (o:=⟨some 9,.alloc 96,0,_,_,none⟩) rfl (fun K hK=>?_) AllReadyH.nil)
   · go_simp
     refine (c130 c t uB ht).mono ?_;rintro e uC ⟨rfl,hbn⟩;have huC:=bT_ huB hbn;have zuC:=hbn.size;have p0uC:=(ZA.out.below huC om_) 0 _ rfl;have p1uC:=(ZA.out.below huC om_) 1 _ rfl;have p2uC:=(ZA.out.below huC om_) 2 _ rfl;have q0uC:=(ZB.out.below huC om_) 0 _ rfl;have q1uC:=(ZB.out.below huC om_) 1 _ rfl;have pHuC:=(huC.cell (p:=⟨H,0,none⟩) (show H<V.heap.size by omega)).trans hV0;clear hbn;go_simp;clear hHeld;refine hK.out _ _ ?_ fun hHeld=>?_
     · exact ⟨p0uC,p1uC,p2uC,q0uC,q1uC,pHuC⟩
     clear hK K
     try simp only [qq]
     refine wpAnyH_ready (rs:=[8,10]) kr_ sm_ ?_;refine AllReadyH.cons (o:=⟨some 20,.call ⟨.value (.func 40),#[.tmp 15,.tmp 19],#[9,3]⟩,9,_,_,none⟩) rfl (fun K hK=>?_) (AllReadyH.cons (o:=⟨some 9,.alloc 96,0,_,_,none⟩) rfl (fun K hK=>?_) AllReadyH.nil)
     · go_simp
       refine (c40 (ofL (formR c t.data.toList)) W uC hf).mono ?_;rintro e uD ⟨rfl,hbn⟩;have huD:=bT_ huC hbn;have zuD:=hbn.size;have p0uD:=(ZA.out.below huD om_) 0 _ rfl;have p1uD:=(ZA.out.below huD om_) 1 _ rfl;have p2uD:=(ZA.out.below huD om_) 2 _ rfl;have q0uD:=(ZB.out.below huD om_) 0 _ rfl;have q1uD:=(ZB.out.below huD om_) 1 _ rfl;have pHuD:=(huD.cell (p:=⟨H,0,none⟩) (show H<V.heap.size by omega)).trans hV0;clear hbn;go_simp;clear hHeld;refine hK.out _ _ ?_ fun hHeld=>?_
       · exact ⟨p0uD,p1uD,p2uD,q0uD,q1uD,pHuD⟩
       clear hK K
       try simp only [qq]
       refine tq 9 hHeld ?_
       try simp only [qq]
       refine rq 10 fun K hK=>?_;go_simp;have huE:Below V.heap.size V (uD.alloc (.cells #[.string ⟨#[]⟩,.slice none 0 0,.string ⟨#[]⟩] 96)):=huD.alloc huD.size _;have HAuE:=hI_ (blk_new uD [.string ⟨#[]⟩,.slice none 0 0,.string ⟨#[]⟩] 96);have HOuE:=hI_ (opn_new uD ([.string ⟨#[]⟩,.slice none 0 0,.string ⟨#[]⟩]:List Value).toArray 96);have zuE:(uD.alloc (.cells #[.string ⟨#[]⟩,.slice none 0 0,.string ⟨#[]⟩] 96)).heap.size=uD.heap.size+1:=sm_;have luE:=huD.size;have p0uE:=(ZA.out.below huE om_) 0 _ rfl;have p1uE:=(ZA.out.below huE om_) 1 _ rfl;have p2uE:=(ZA.out.below huE om_) 2 _ rfl;have q0uE:=(ZB.out.below huE om_) 0 _ rfl;have q1uE:=(ZB.out.below huE om_) 1 _ rfl;have pHuE:=(huE.cell (p:=⟨H,0,none⟩) (show H<V.heap.size by omega)).trans hV0;clear hHeld;refine hK.out _ _ ?_ fun hHeld=>?_
       · exact ⟨p0uE,p1uE,p2uE,q0uE,q1uE,pHuE⟩
       clear hK K
       try simp only [qq]
       generalize (uD.alloc (.cells #[.string ⟨#[]⟩,.slice none 0 0,.string ⟨#[]⟩] 96))=uE at*;refine rq 11 fun K hK=>?_;refine step_store_blk rfl 96 (.tmp 9) (.tmp 21) rfl uD.heap.size 0 rfl [.string (keyR m),.slice none 0 0,.string (sumS (ofL (formR c t.data.toList)) W)] rfl (blk_some HAuE.out rfl) HOuE.out (by simp [Value.oneCell']) kr_ rfl ?_;clear hHeld;refine st_over (old:=[.string ⟨#[]⟩,.slice none 0 0,.string ⟨#[]⟩]) (N:=V.heap.size) rfl HAuE.out HOuE.out om_ ?_;intro E hbE ZE FE hsE hoE;have hE:=huE.trans hbE;have p0E:=(ZA.out.below hE om_) 0 _ rfl;have p1E:=(ZA.out.below hE om_) 1 _ rfl;have p2E:=(ZA.out.below hE om_) 2 _ rfl;have q0E:=(ZB.out.below hE om_) 0 _ rfl;have q1E:=(ZB.out.below hE om_) 1 _ rfl;have pHE:=(hE.cell (p:=⟨H,0,none⟩) (show H<V.heap.size by omega)).trans hV0;refine hK.out _ _ ⟨p0E,p1E,p2E,q0E,q1E,pHE⟩ fun hHeld=>?_;clear hK K;refine wpAnyH_done kr_ ?_ _;exact TAIL uD.heap.size E hE om_ om_ ZE FE
     · go_simp
       have huD:Below V.heap.size V (uC.alloc (.cells #[.string ⟨#[]⟩,.slice none 0 0,.string ⟨#[]⟩] 96)):=huC.alloc huC.size _;have HAuD:=hI_ (blk_new uC [.string ⟨#[]⟩,.slice none 0 0,.string ⟨#[]⟩] 96);have HOuD:=hI_ (opn_new uC ([.string ⟨#[]⟩,.slice none 0 0,.string ⟨#[]⟩]:List Value).toArray 96);have zuD:(uC.alloc (.cells #[.string ⟨#[]⟩,.slice none 0 0,.string ⟨#[]⟩] 96)).heap.size=uC.heap.size+1:=sm_;have luD:=huC.size;have p0uD:=(ZA.out.below huD om_) 0 _ rfl;have p1uD:=(ZA.out.below huD om_) 1 _ rfl;have p2uD:=(ZA.out.below huD om_) 2 _ rfl;have q0uD:=(ZB.out.below huD om_) 0 _ rfl;have q1uD:=(ZB.out.below huD om_) 1 _ rfl;have pHuD:=(huD.cell (p:=⟨H,0,none⟩) (show H<V.heap.size by omega)).trans hV0;clear hHeld;refine hK.out _ _ ?_ fun hHeld=>?_
       · exact ⟨p0uD,p1uD,p2uD,q0uD,q1uD,pHuD⟩
       clear hK K
       try simp only [qq]
       generalize (uC.alloc (.cells #[.string ⟨#[]⟩,.slice none 0 0,.string ⟨#[]⟩] 96))=uD at*;refine rq 8 fun K hK=>?_;go_simp;refine (c40 (ofL (formR c t.data.toList)) W uD hf).mono ?_;rintro e uE ⟨rfl,hbn⟩;have huE:=bT_ huD hbn;have zuE:=hbn.size;have p0uE:=(ZA.out.below huE om_) 0 _ rfl;have p1uE:=(ZA.out.below huE om_) 1 _ rfl;have p2uE:=(ZA.out.below huE om_) 2 _ rfl;have q0uE:=(ZB.out.below huE om_) 0 _ rfl;have q1uE:=(ZB.out.below huE om_) 1 _ rfl;have pHuE:=(huE.cell (p:=⟨H,0,none⟩) (show H<V.heap.size by omega)).trans hV0;have HAuE:=hI_ (HAuD.out.below hbn om_);have HOuE:=hI_ (HOuD.out.below hbn om_);clear HAuD HOuD;clear hbn;go_simp;clear hHeld;refine hK.out _ _ ?_ fun hHeld=>?_
       · exact ⟨p0uE,p1uE,p2uE,q0uE,q1uE,pHuE⟩
       clear hK K
       try simp only [qq]
       refine tq 9 hHeld ?_
       try simp only [qq]
       refine rq 11 fun K hK=>?_;refine step_store_blk rfl 96 (.tmp 9) (.tmp 21) rfl uC.heap.size 0 rfl [.string (keyR m),.slice none 0 0,.string (sumS (ofL (formR c t.data.toList)) W)] rfl (blk_some HAuE.out rfl) HOuE.out (by simp [Value.oneCell']) kr_ rfl ?_;clear hHeld;refine st_over (old:=[.string ⟨#[]⟩,.slice none 0 0,.string ⟨#[]⟩]) (N:=V.heap.size) rfl HAuE.out HOuE.out om_ ?_;intro E hbE ZE FE hsE hoE;have hE:=huE.trans hbE;have p0E:=(ZA.out.below hE om_) 0 _ rfl;have p1E:=(ZA.out.below hE om_) 1 _ rfl;have p2E:=(ZA.out.below hE om_) 2 _ rfl;have q0E:=(ZB.out.below hE om_) 0 _ rfl;have q1E:=(ZB.out.below hE om_) 1 _ rfl;have pHE:=(hE.cell (p:=⟨H,0,none⟩) (show H<V.heap.size by omega)).trans hV0;refine hK.out _ _ ⟨p0E,p1E,p2E,q0E,q1E,pHE⟩ fun hHeld=>?_;clear hK K;refine wpAnyH_done kr_ ?_ _;exact TAIL uC.heap.size E hE om_ om_ ZE FE
   · go_simp
     have huC:Below V.heap.size V (uB.alloc (.cells #[.string ⟨#[]⟩,.slice none 0 0,.string ⟨#[]⟩] 96)):=huB.alloc huB.size _;have HAuC:=hI_ (blk_new uB [.string ⟨#[]⟩,.slice none 0 0,.string ⟨#[]⟩] 96);have HOuC:=hI_ (opn_new uB ([.string ⟨#[]⟩,.slice none 0 0,.string ⟨#[]⟩]:List Value).toArray 96);have zuC:(uB.alloc (.cells #[.string ⟨#[]⟩,.slice none 0 0,.string ⟨#[]⟩] 96)).heap.size=uB.heap.size+1:=sm_;have luC:=huB.size;have p0uC:=(ZA.out.below huC om_) 0 _ rfl;have p1uC:=(ZA.out.below huC om_) 1 _ rfl;have p2uC:=(ZA.out.below huC om_) 2 _ rfl;have q0uC:=(ZB.out.below huC om_) 0 _ rfl;have q1uC:=(ZB.out.below huC om_) 1 _ rfl;have pHuC:=(huC.cell (p:=⟨H,0,none⟩) (show H<V.heap.size by omega)).trans hV0;clear hHeld;refine hK.out _ _ ?_ fun hHeld=>?_
     · exact ⟨p0uC,p1uC,p2uC,q0uC,q1uC,pHuC⟩
     clear hK K
     try simp only [qq]
     generalize (uB.alloc (.cells #[.string ⟨#[]⟩,.slice none 0 0,.string ⟨#[]⟩] 96))=uC at*;refine rq 3 fun K hK=>?_;go_simp;refine (c130 c t uC ht).mono ?_;rintro e uD ⟨rfl,hbn⟩;have huD:=bT_ huC hbn;have zuD:=hbn.size;have p0uD:=(ZA.out.below huD om_) 0 _ rfl;have p1uD:=(ZA.out.below huD om_) 1 _ rfl;have p2uD:=(ZA.out.below huD om_) 2 _ rfl;have q0uD:=(ZB.out.below huD om_) 0 _ rfl;have q1uD:=(ZB.out.below huD om_) 1 _ rfl;have pHuD:=(huD.cell (p:=⟨H,0,none⟩) (show H<V.heap.size by omega)).trans hV0;have HAuD:=hI_ (HAuC.out.below hbn om_);have HOuD:=hI_ (HOuC.out.below hbn om_);clear HAuC HOuC;clear hbn;go_simp;clear hHeld;refine hK.out _ _ ?_ fun hHeld=>?_
     · exact ⟨p0uD,p1uD,p2uD,q0uD,q1uD,pHuD⟩
     clear hK K
     try simp only [qq]
     refine rq 8 fun K hK=>?_;go_simp;refine (c40 (ofL (formR c t.data.toList)) W uD hf).mono ?_;rintro e uE ⟨rfl,hbn⟩;have huE:=bT_ huD hbn;have zuE:=hbn.size;have p0uE:=(ZA.out.below huE om_) 0 _ rfl;have p1uE:=(ZA.out.below huE om_) 1 _ rfl;have p2uE:=(ZA.out.below huE om_) 2 _ rfl;have q0uE:=(ZB.out.below huE om_) 0 _ rfl;have q1uE:=(ZB.out.below huE om_) 1 _ rfl;have pHuE:=(huE.cell (p:=⟨H,0,none⟩) (show H<V.heap.size by omega)).trans hV0;have HAuE:=hI_ (HAuD.out.below hbn om_);have HOuE:=hI_ (HOuD.out.below hbn om_);clear HAuD HOuD;clear hbn;go_simp;clear hHeld;refine hK.out _ _ ?_ fun hHeld=>?_
     · exact ⟨p0uE,p1uE,p2uE,q0uE,q1uE,pHuE⟩
     clear hK K
     try simp only [qq]
     refine tq 9 hHeld ?_
     try simp only [qq]
     refine rq 11 fun K hK=>?_;refine step_store_blk rfl 96 (.tmp 9) (.tmp 21) rfl uB.heap.size 0 rfl [.string (keyR m),.slice none 0 0,.string (sumS (ofL (formR c t.data.toList)) W)] rfl (blk_some HAuE.out rfl) HOuE.out (by simp [Value.oneCell']) kr_ rfl ?_;clear hHeld;refine st_over (old:=[.string ⟨#[]⟩,.slice none 0 0,.string ⟨#[]⟩]) (N:=V.heap.size) rfl HAuE.out HOuE.out om_ ?_;intro E hbE ZE FE hsE hoE;have hE:=huE.trans hbE;have p0E:=(ZA.out.below hE om_) 0 _ rfl;have p1E:=(ZA.out.below hE om_) 1 _ rfl;have p2E:=(ZA.out.below hE om_) 2 _ rfl;have q0E:=(ZB.out.below hE om_) 0 _ rfl;have q1E:=(ZB.out.below hE om_) 1 _ rfl;have pHE:=(hE.cell (p:=⟨H,0,none⟩) (show H<V.heap.size by omega)).trans hV0;refine hK.out _ _ ⟨p0E,p1E,p2E,q0E,q1E,pHE⟩ fun hHeld=>?_;clear hK K;refine wpAnyH_done kr_ ?_ _;exact TAIL uB.heap.size E hE om_ om_ ZE FE
 · go_simp
   have huA:Below V.heap.size V ((V.alloc (.cells #[.string ⟨#[]⟩,.slice none 0 0,.string ⟨#[]⟩] 96)).drew):=(hV.alloc hV.size _).drew;have HAuA:Hid (BlkAt ((V.alloc (.cells #[.string ⟨#[]⟩,.slice none 0 0,.string ⟨#[]⟩] 96)).drew) (w.heap.size+3) [.string ⟨#[]⟩,.slice none 0 0,.string ⟨#[]⟩]):=hz▸hI_ ((blk_new V [.string ⟨#[]⟩,.slice none 0 0,.string ⟨#[]⟩] 96).below (Below.refl (V.heap.size+1) _).drew om_);have HOuA:Hid (OpnAt ((V.alloc (.cells #[.string ⟨#[]⟩,.slice none 0 0,.string ⟨#[]⟩] 96)).drew) (w.heap.size+3)):=hz▸hI_ ((opn_new V ([.string ⟨#[]⟩,.slice none 0 0,.string ⟨#[]⟩]:List Value).toArray 96).below (Below.refl (V.heap.size+1) _).drew om_);have zuA:((V.alloc (.cells #[.string ⟨#[]⟩,.slice none 0 0,.string ⟨#[]⟩] 96)).drew).heap.size=V.heap.size+1:=sm_;have p0uA:=(ZA.out.below huA om_) 0 _ rfl;have p1uA:=(ZA.out.below huA om_) 1 _ rfl;have p2uA:=(ZA.out.below huA om_) 2 _ rfl;have q0uA:=(ZB.out.below huA om_) 0 _ rfl;have q1uA:=(ZB.out.below huA om_) 1 _ rfl;have pHuA:=(huA.cell (p:=⟨H,0,none⟩) (show H<V.heap.size by omega)).trans hV0;clear hHeld;refine hK.out _ _ ?_ fun hHeld=>?_
   · exact ⟨p0uA,p1uA,p2uA,q0uA,q1uA,pHuA⟩
   clear hK K
   try simp only [qq]
   generalize ((V.alloc (.cells #[.string ⟨#[]⟩,.slice none 0 0,.string ⟨#[]⟩] 96)).drew)=uA at*;refine rq 1 fun K hK=>?_;go_simp;refine (c131 m uA hm).mono ?_;rintro e uB ⟨rfl,hbn⟩;have huB:=bT_ huA hbn;have zuB:=hbn.size;have p0uB:=(ZA.out.below huB om_) 0 _ rfl;have p1uB:=(ZA.out.below huB om_) 1 _ rfl;have p2uB:=(ZA.out.below huB om_) 2 _ rfl;have q0uB:=(ZB.out.below huB om_) 0 _ rfl;have q1uB:=(ZB.out.below huB om_) 1 _ rfl;have pHuB:=(huB.cell (p:=⟨H,0,none⟩) (show H<V.heap.size by omega)).trans hV0;have HAuB:=hI_ (HAuA.out.below hbn om_);have HOuB:=hI_ (HOuA.out.below hbn om_);clear HAuA HOuA;clear hbn;go_simp;clear hHeld;refine hK.out _ _ ?_ fun hHeld=>?_
   · exact ⟨p0uB,p1uB,p2uB,q0uB,q1uB,pHuB⟩
   clear hK K
   try simp only [qq]
   refine rq 3 fun K hK=>?_;go_simp;refine (c130 c t uB ht).mono ?_;rintro e uC ⟨rfl,hbn⟩;have huC:=bT_ huB hbn;have zuC:=hbn.size;have p0uC:=(ZA.out.below huC om_) 0 _ rfl;have p1uC:=(ZA.out.below huC om_) 1 _ rfl;have p2uC:=(ZA.out.below huC om_) 2 _ rfl;have q0uC:=(ZB.out.below huC om_) 0 _ rfl;have q1uC:=(ZB.out.below huC om_) 1 _ rfl;have pHuC:=(huC.cell (p:=⟨H,0,none⟩) (show H<V.heap.size by omega)).trans hV0;have HAuC:=hI_ (HAuB.out.below hbn om_);have HOuC:=hI_ (HOuB.out.below hbn om_);clear HAuB HOuB;clear hbn;go_simp;clear hHeld;refine hK.out _ _ ?_ fun hHeld=>?_
   · exact ⟨p0uC,p1uC,p2uC,q0uC,q1uC,pHuC⟩
   clear hK K
   try simp only [qq]
   refine rq 8 fun K hK=>?_;go_simp;refine (c40 (ofL (formR c t.data.toList)) W uC hf).mono ?_;rintro e uD ⟨rfl,hbn⟩;have huD:=bT_ huC hbn;have zuD:=hbn.size;have p0uD:=(ZA.out.below huD om_) 0 _ rfl;have p1uD:=(ZA.out.below huD om_) 1 _ rfl;have p2uD:=(ZA.out.below huD om_) 2 _ rfl;have q0uD:=(ZB.out.below huD om_) 0 _ rfl;have q1uD:=(ZB.out.below huD om_) 1 _ rfl;have pHuD:=(huD.cell (p:=⟨H,0,none⟩) (show H<V.heap.size by omega)).trans hV0;have HAuD:=hI_ (HAuC.out.below hbn om_);have HOuD:=hI_ (HOuC.out.below hbn om_);clear HAuC HOuC;clear hbn;go_simp;clear hHeld;refine hK.out _ _ ?_ fun hHeld=>?_
   · exact ⟨p0uD,p1uD,p2uD,q0uD,q1uD,pHuD⟩
   clear hK K
   try simp only [qq]
   refine tq 9 hHeld ?_
   try simp only [qq]
   refine rq 11 fun K hK=>?_;refine step_store_blk rfl 96 (.tmp 9) (.tmp 21) rfl (w.heap.size+3) 0 rfl [.string (keyR m),.slice none 0 0,.string (sumS (ofL (formR c t.data.toList)) W)] rfl (blk_some HAuD.out rfl) HOuD.out (by simp [Value.oneCell']) kr_ rfl ?_;clear hHeld;refine st_over (old:=[.string ⟨#[]⟩,.slice none 0 0,.string ⟨#[]⟩]) (N:=V.heap.size) rfl HAuD.out HOuD.out om_ ?_;intro E hbE ZE FE hsE hoE;have hE:=huD.trans hbE;have p0E:=(ZA.out.below hE om_) 0 _ rfl;have p1E:=(ZA.out.below hE om_) 1 _ rfl;have p2E:=(ZA.out.below hE om_) 2 _ rfl;have q0E:=(ZB.out.below hE om_) 0 _ rfl;have q1E:=(ZB.out.below hE om_) 1 _ rfl;have pHE:=(hE.cell (p:=⟨H,0,none⟩) (show H<V.heap.size by omega)).trans hV0;refine hK.out _ _ ⟨p0E,p1E,p2E,q0E,q1E,pHE⟩ fun hHeld=>?_;clear hK K;refine wpAnyH_done kr_ ?_ _;exact TAIL (w.heap.size+3) E hE om_ om_ ZE FE
end Go.Proofs.YtlckdgjfniglfaaGreatDoor
