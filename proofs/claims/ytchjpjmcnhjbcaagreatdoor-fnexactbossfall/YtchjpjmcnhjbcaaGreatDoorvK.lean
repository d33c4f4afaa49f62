import Derived.Test.YtchjpjmcnhjbcaaGreatDoorK5
import Derived.Test.YtchjpjmcnhjbcaaGreatDoorvG
set_option linter.unusedVariables false
set_option maxHeartbeats 8000000
set_option maxRecDepth 100000
namespace Go.Proofs.YtchjpjmcnhjbcaaGreatDoor
open Proofs.Tryz Go.RowKit
theorem a1y (b:Bool) (s:BY) (w:World) (a:s=if b=true then ⟨#[49]⟩ else ⟨#[48]⟩):Calls prog 241 #[.bool b] w fun e w'=>e=.returned (.string s)/\Bw w w':=by
 subst a;exact a2y b w
theorem c198 (m:M3) (ls:List L4) (c:Int) (t:BY) (W:Int) (a:OA) (cap:Nat) (w:World) (hm:m.le 1048600) (ht:t.size<=1048700) (hf:(J3 (O8 c t.data.toList)).size<=1048700) (hl:ls.length<=1048576) (hs:∀ i,(ls.getD i E_).tx.size<=1048600/\(zn (ls.getD i E_)).size<=1048700) (hat:o9 w a ls):
 Calls prog 198 #[.agg #[.string m.nm,.string m.tl,.string m.ar],.slice a ls.length cap,.agg #[.int .i64 c,.string t],.int .i64 W] w fun e w'=>(∃ v,e=.returned (.agg #[.string (d_ m),v,.string (Z5 (J3 (O8 c t.data.toList)) W)])/\w'.ownsRow w.heap.size 205 3 v ls.length (sF W ls))/\Bw w w':=by
 have hm1:=hm.2.1;have hm2:=hm.2.2;have hk1:¬ 9223372036854775807<m.tl.size+1:=O0;have hk2:¬ 9223372036854775807<m.tl.size+1+m.ar.size:=O0;have HL:=U0 hat;clear hat;go_enter func198,ntmps198
 go_upto_region 1 with fail
 have hB0:Bw w (((w.alloc (.cells #[.string m.nm,.string m.tl,.string m.ar] 135)).alloc (.cells #[.int .i64 c,.string t] 103)).alloc (.cells #[.string ⟨#[]⟩,.slice none 0 0,.string ⟨#[]⟩] 145)):=(P6.alloc X4 _).alloc U7 _;have J:Hid ((Cl (((w.alloc (.cells #[.string m.nm,.string m.tl,.string m.ar] 135)).alloc (.cells #[.int .i64 c,.string t] 103)).alloc (.cells #[.string ⟨#[]⟩,.slice none 0 0,.string ⟨#[]⟩] 145)) w.heap.size 135 [.string m.nm,.string m.tl,.string m.ar]/\Cl (((w.alloc (.cells #[.string m.nm,.string m.tl,.string m.ar] 135)).alloc (.cells #[.int .i64 c,.string t] 103)).alloc (.cells #[.string ⟨#[]⟩,.slice none 0 0,.string ⟨#[]⟩] 145)) (w.heap.size+1) 103 [.int .i64 c,.string t])/\Cl (((w.alloc (.cells #[.string m.nm,.string m.tl,.string m.ar] 135)).alloc (.cells #[.int .i64 c,.string t] 103)).alloc (.cells #[.string ⟨#[]⟩,.slice none 0 0,.string ⟨#[]⟩] 145)) (w.heap.size+2) 145 [.string ⟨#[]⟩,.slice none 0 0,.string ⟨#[]⟩]):=⟨⟨G9 (G9 (Y4 w [.string m.nm,.string m.tl,.string m.ar] 135) _) _,G9 (by have h:=Y4 (w.alloc (.cells #[.string m.nm,.string m.tl,.string m.ar] 135)) [.int .i64 c,.string t] 103;simpa using h) _⟩,by have h:=Y4 ((w.alloc (.cells #[.string m.nm,.string m.tl,.string m.ar] 135)).alloc (.cells #[.int .i64 c,.string t] 103)) [.string ⟨#[]⟩,.slice none 0 0,.string ⟨#[]⟩] 145;simpa using h⟩;generalize ((w.alloc (.cells #[.string m.nm,.string m.tl,.string m.ar] 135)).alloc (.cells #[.int .i64 c,.string t] 103)).alloc (.cells #[.string ⟨#[]⟩,.slice none 0 0,.string ⟨#[]⟩] 145)=V at*;have F:Hid (∀ u,Bw V u->(Cl u w.heap.size 135 [.string m.nm,.string m.tl,.string m.ar]/\Cl u (w.heap.size+1) 103 [.int .i64 c,.string t])/\Cl u (w.heap.size+2) 145 [.string ⟨#[]⟩,.slice none 0 0,.string ⟨#[]⟩]/\Bw w u/\o9 u a ls):=fun u D=>⟨⟨J.out.1.1.below D J.out.1.1.lt,J.out.1.2.below D J.out.1.2.lt⟩,J.out.2.below D J.out.2.lt,X5 hB0 D,l7 HL.out (X5 hB0 D)⟩;have hVz:=J.out.2.lt;clear J HL hB0
 go_cut [9] from 10 (fun s Z=>∃ A,s=.pointer (some ⟨A,0,none⟩)/\V.heap.size<=A/\Hid (Cl Z A 145 [.string (d_ m),.slice none 0 0,.string (Z5 (J3 (O8 c t.data.toList)) W)])/\Hid (Bw V Z))
 case first=>
  have d:Bw V V.drew:=(Z4 _ _).drew;refine wp_region_held_drew (S:=fun u=>Cl u w.heap.size 135 [.string m.nm,.string m.tl,.string m.ar]/\Cl u (w.heap.size+1) 103 [.int .i64 c,.string t]) Y2 (F.out _ d).1 fun hH=>?_;generalize V.drew=y at*;refine Y0 0 ?_;refine tq 1 hH ?_ (hv:=fun u D=>Fz 9 _ rfl (B:=w.heap.size) (j:=1) rfl (D.1.cell 1) Y2)
  try simp only [qq]
  refine Y0 2 ?_;refine Y0 3 ?_;refine tq 4 hH ?_ (hv:=fun u D=>Fz 9 _ rfl (B:=w.heap.size) (j:=2) rfl (D.1.cell 2) Y2)
  try simp only [qq]
  refine Y0 5 ?_;refine tq 6 hH ?_ (hv:=fun u D=>X8 103 _ rfl (B:=w.heap.size+1) (j:=0) (cs:=[.int .i64 c,.string t]) rfl (fun q v e=>by rw [L8];exact (D.2.cell q).trans e) underlying103 rfl Y2)
  try simp only [qq]
  refine Y0 8 ?_;refine wpAnyH_ready (rs:=[7,11]) Y2 X4 ?_;refine AllReadyH.cons (o:=⟨some 19,.call ⟨.value (.func 197),#[.tmp 18],#[103]⟩,9,_,_,none⟩) rfl (fun K f=>?_) (AllReadyH.cons (o:=⟨some 9,.alloc 145,0,_,_,none⟩) rfl (fun K f=>?_) AllReadyH.nil);rotate_left
  · go_simp;have r:=U0 (Y4 y [.string ⟨#[]⟩,.slice none 0 0,.string ⟨#[]⟩] 145);have hA:=d.size
    replace d:=X5 d (P6 (w:=y) (o:=.cells #[.string ⟨#[]⟩,.slice none 0 0,.string ⟨#[]⟩] 145))
    refine E8 f (F.out _ d).1 fun hH=>?_;clear f K;generalize y.alloc (.cells #[.string ⟨#[]⟩,.slice none 0 0,.string ⟨#[]⟩] 145)=ya at*;refine rq 7 fun K f=>?_;go_simp;refine (UR c t _ ht).mono ?_;rintro e u0 ⟨rfl,g⟩
    replace r:=U0 (r.out.below g r.out.lt)
    replace d:=X5 d g
    clear g;go_simp;refine E8 f (F.out _ d).1 fun hH=>?_;clear f K;refine rq 9 fun K f=>?_;go_simp;refine (YA _ W _ hf).mono ?_;rintro e u1 ⟨rfl,g⟩
    replace r:=U0 (r.out.below g r.out.lt)
    replace d:=X5 d g
    clear g;go_simp;refine E8 f (F.out _ d).1 fun hH=>?_;clear f K;refine Y0 10 ?_;refine rq 12 fun K f=>?_;refine t_ rfl 145 _ _ rfl (B:=y.heap.size) (j:=0) rfl (vs:=[.string (d_ m),.slice none 0 0,.string (Z5 (J3 (O8 c t.data.toList)) W)]) rfl r.out H8 (o8 rfl) Y2 ?_;intro z H C
    replace d:=d.trans (C.below hA)
    have CZ:=U0 H;refine E8 f (F.out _ d).1 fun hH=>?_;clear f K;refine wdn ?_
    go_wp2_with fail
    go_meet
    case rel=>exact ⟨_,rfl,hA,CZ,d⟩
  go_simp;refine (UR c t _ ht).mono ?_;rintro e u0 ⟨rfl,g⟩
  replace d:=X5 d g
  clear g;go_simp;refine E8 f (F.out _ d).1 fun hH=>?_;clear f K;refine wpAnyH_ready (rs:=[9,11]) Y2 X4 ?_;refine AllReadyH.cons (o:=⟨some 21,.call ⟨.value (.func 240),#[.tmp 19,.tmp 20],#[9,3]⟩,9,_,_,none⟩) rfl (fun K f=>?_) (AllReadyH.cons (o:=⟨some 9,.alloc 145,0,_,_,none⟩) rfl (fun K f=>?_) AllReadyH.nil);rotate_left
  · go_simp;have r:=U0 (Y4 u0 [.string ⟨#[]⟩,.slice none 0 0,.string ⟨#[]⟩] 145);have hA:=d.size
    replace d:=X5 d (P6 (w:=u0) (o:=.cells #[.string ⟨#[]⟩,.slice none 0 0,.string ⟨#[]⟩] 145))
    refine E8 f (F.out _ d).1 fun hH=>?_;clear f K;generalize u0.alloc (.cells #[.string ⟨#[]⟩,.slice none 0 0,.string ⟨#[]⟩] 145)=ya at*;refine rq 9 fun K f=>?_;go_simp;refine (YA _ W _ hf).mono ?_;rintro e u1 ⟨rfl,g⟩
    replace r:=U0 (r.out.below g r.out.lt)
    replace d:=X5 d g
    clear g;go_simp;refine E8 f (F.out _ d).1 fun hH=>?_;clear f K;refine Y0 10 ?_;refine rq 12 fun K f=>?_;refine t_ rfl 145 _ _ rfl (B:=u0.heap.size) (j:=0) rfl (vs:=[.string (d_ m),.slice none 0 0,.string (Z5 (J3 (O8 c t.data.toList)) W)]) rfl r.out H8 (o8 rfl) Y2 ?_;intro z H C
    replace d:=d.trans (C.below hA)
    have CZ:=U0 H;refine E8 f (F.out _ d).1 fun hH=>?_;clear f K;refine wdn ?_
    go_wp2_with fail
    go_meet
    case rel=>exact ⟨_,rfl,hA,CZ,d⟩
  go_simp;refine (YA _ W _ hf).mono ?_;rintro e u1 ⟨rfl,g⟩
  replace d:=X5 d g
  clear g;go_simp;refine E8 f (F.out _ d).1 fun hH=>?_;clear f K;refine Y0 10 ?_;refine rq 11 fun K f=>?_;go_simp;have r:=U0 (Y4 u1 [.string ⟨#[]⟩,.slice none 0 0,.string ⟨#[]⟩] 145);have hA:=d.size
  replace d:=X5 d (P6 (w:=u1) (o:=.cells #[.string ⟨#[]⟩,.slice none 0 0,.string ⟨#[]⟩] 145))
  refine E8 f (F.out _ d).1 fun hH=>?_;clear f K;generalize u1.alloc (.cells #[.string ⟨#[]⟩,.slice none 0 0,.string ⟨#[]⟩] 145)=ya at*;refine rq 12 fun K f=>?_;refine t_ rfl 145 _ _ rfl (B:=u1.heap.size) (j:=0) rfl (vs:=[.string (d_ m),.slice none 0 0,.string (Z5 (J3 (O8 c t.data.toList)) W)]) rfl r.out H8 (o8 rfl) Y2 ?_;intro z H C
  replace d:=d.trans (C.below hA)
  have CZ:=U0 H;refine E8 f (F.out _ d).1 fun hH=>?_;clear f K;refine wdn ?_
  go_wp2_with fail
  go_meet
  case rel=>exact ⟨_,rfl,hA,CZ,d⟩
 obtain ⟨A,rfl,hA,r,BV⟩:=hcut;obtain ⟨_,CR,BW,_⟩:=F.out _ BV.out;obtain ⟨b,off,hc⟩:=xg (F.out V (Z4 _ _)).2.2.2;have BE:=U0 BV.out;have HR:=U0 CR;have HB:=U0 BW;have hAw:=r.out.lt;have hRw:=CR.lt;generalize wc=E at*;have HK:=U0 hc;clear hc CR BW F BV
 go_wp2_with fail
 go_loopw [10] (fun i wr=>∃ (k:Nat) (v:Value),k<=ls.length/\i=.int .i64 k/\Hid (Cl wr A 145 [.string (d_ m),v,.string (Z5 (J3 (O8 c t.data.toList)) W)])/\Hid (wr.ownsRow E.heap.size 205 3 v k (sF W (ls.take k)))/\But A E wr) (fun i _=>ls.length - (RowKit.intOf i).toNat)
 case atStart=>exact ⟨0,.slice none 0 0,J4 _,rfl,r,mg _ _ _ _,But.refl _ _⟩
 case round=>
  obtain ⟨k,v,hk,rfl,CAr,Y,BT⟩:=hrel;obtain ⟨X,U,rfl⟩:=I9 Y.out;have sz:=BT.size;by_cases R:k<ls.length;rotate_left
  · obtain rfl:k=ls.length:=O0;have CR:=U0 ((BT.block (w.heap.size+2) O0 O0).trans HR.out)
    go_wp2_with (first | (refine U9 CAr.out rfl 145 _ rfl (j:=0) [.string (d_ m),.slice X ls.length U,.string (Z5 (J3 (O8 c t.data.toList)) W)] rfl rfl underlying145 rfl Y2 ?_) | (refine y9 rfl 145 _ _ rfl (B:=w.heap.size+2) (j:=0) rfl (vs:=[.string (d_ m),.slice X ls.length U,.string (Z5 (J3 (O8 c t.data.toList)) W)]) rfl CR.out H8 (o8 rfl) Y2 ?_;intro z H C))
    refine Y6 (Q8 (P:=prog) (ty:=145) rfl _ z (w.heap.size+2) [.string (d_ m),.slice X ls.length U,.string (Z5 (J3 (O8 c t.data.toList)) W)] _ rfl H.blk underlying145 rfl Y2) rfl ⟨⟨_,rfl,?_⟩,(HB.out.trans (BT.below O0 O0)).trans (C.below O0)⟩;have h:=Y.out;rw [Yp] at h;exact H9 (Uu h (qj C.size.symm) (fun q _ O=>C.block q O) O0) O0
  obtain ⟨ha,hbw,hcell⟩:=Cc HK.out R;subst ha;have I:Hid (∀ u,Bw wr u->(∀ i v,([.bool (ls.getD k E_).has,.string (ls.getD k E_).nm,.int .i64 (ls.getD k E_).cd,.string (ls.getD k E_).tx]:List Value)[i]?=some v->u.cell? ⟨b,off+k*4+i,none⟩=some v)/\Cl u A 145 [.string (d_ m),.slice X k U,.string (Z5 (J3 (O8 c t.data.toList)) W)]/\u.ownsRow E.heap.size 205 3 (.slice X k U) k (sF W (ls.take k))/\But A E u):=fun u D=>by
   have hB:=BT.trans (But.of_below D);refine ⟨fun i v e=>?_,CAr.out.below D CAr.out.lt,own_below Y.out D,hB⟩;rw [hB.cell (p:=⟨b,off+k*4+i,none⟩) (O9 hbw BE.out.size) (by show b≠A;omega),BE.out.cell (p:=⟨b,off+k*4+i,none⟩) hbw]
   match i,e with
   | 0,e=>cases e;exact (hcell k R).1
   | 1,e=>cases e;exact (hcell k R).2.1
   | 2,e=>cases e;exact (hcell k R).2.2.1
   | 3,e=>cases e;exact (hcell k R).2.2.2
  have HT:=U0 (Zt R);have hxs:=hs k;have hDn:=U0 (fun q Q=>Xe Y.out (k:=q) Q);have hOb:=U0 (fun q Q=>J6 Y.out (k:=q) Q);clear hcell Y BT CAr;generalize ls.getD k E_=x at*
  go_upto_region 5 with fail
  have l:Bw wr wr.drew:=(Z4 _ _).drew;refine wp_region_held_drew (S:=fun u=>u.cell? ⟨b,off+k*4,none⟩=some (.bool x.has)/\u.cell? ⟨b,off+k*4+1,none⟩=some (.string x.nm)) Y2 ⟨(I.out _ l).1 0 _ rfl,(I.out _ l).1 1 _ rfl⟩ fun hH=>?_;refine Y0 0 ?_;refine Y0 1 ?_;refine Y0 2 ?_;refine Y0 3 ?_;refine Y0 4 ?_;refine Y0 5 ?_;refine Y0 6 ?_;refine Y0 7 ?_;refine Y0 8 ?_;refine Y0 9 ?_;refine Y0 10 ?_;refine rq 11 fun K f=>?_;go_simp;have n:Hid (Cl (wr.alloc (.cells #[.bool false,.string ⟨#[]⟩,.string ⟨#[]⟩] 205)).drew wr.heap.size 205 [.bool false,.string ⟨#[]⟩,.string ⟨#[]⟩]):=Y4 wr [.bool false,.string ⟨#[]⟩,.string ⟨#[]⟩] 205
  replace l:=(P6 (w:=wr) (o:=.cells #[.bool false,.string ⟨#[]⟩,.string ⟨#[]⟩] 205)).drew
  generalize (wr.alloc (.cells #[.bool false,.string ⟨#[]⟩,.string ⟨#[]⟩] 205)).drew=y1 at*;refine E8 f ⟨(I.out _ l).1 0 _ rfl,(I.out _ l).1 1 _ rfl⟩ fun hH=>?_;clear f K;refine rq 12 fun K f=>?_;refine t_ rfl 205 _ _ rfl (B:=wr.heap.size) (j:=0) rfl (vs:=[.bool x.has,.string x.nm,.string ⟨#[]⟩]) rfl n.out H8 (o8 rfl) Y2 ?_;intro z H C
  replace l:=l.trans (C.below H8)
  replace n:Hid (Cl z wr.heap.size 205 [.bool x.has,.string x.nm,.string ⟨#[]⟩]):=H
  refine E8 f ⟨(I.out _ l).1 0 _ rfl,(I.out _ l).1 1 _ rfl⟩ fun hH=>?_;clear f K H C;refine wdn ?_;clear hH
  go_upto_if 41 with (refine U8 n.out rfl _ _ rfl rfl rfl Y2 ?_)
  try simp only [qq]
  go_cut [] from 29 to 61 (fun Z=>Hid (Cl Z wr.heap.size 205 [.bool x.has,.string x.nm,.string (Z5 (zn x) W)])/\Hid (Bw wr Z))
  case first=>
   cases hh:x.has
   · have hg:=U0 (show zn x=J3 (O8 x.cd x.tx.data.toList) by simp [zn,hh]);clear hh
     go_wp2_with (refine Y9 rfl (X8 103 _ rfl (B:=b) (j:=off+k*4+2) (cs:=[.int .i64 x.cd,.string x.tx]) rfl (fun i v e=>by rw [Nat.add_assoc];exact (I.out _ l).1 (2+i) v (by match i,e with | 0,e=>exact e | 1,e=>exact e)) underlying103 rfl Y2) ?_)
     refine (UR x.cd x.tx z O0).mono ?_;rintro e u1 ⟨rfl,g⟩
     replace n:=U0 (n.out.below g n.out.lt)
     replace l:=X5 l g
     clear g
     go_wp2_with fail
     refine (YA _ W u1 (hg.out▸hxs.2)).mono ?_;rintro e u2 ⟨rfl,g⟩
     replace n:=U0 (n.out.below g n.out.lt)
     replace l:=X5 l g
     clear g
     go_wp2_with (refine Uz rfl 9 _ _ rfl (p:=2) rfl rfl Y2 n.out (W_ rfl) ?_;intro z2 H C)
     try simp only [qq]
     go_meet
     case rel=>exact ⟨by show Cl _ _ _ _;rw [hg.out];exact H.out,l.trans (C.below H8)⟩
   have hg:=U0 (show zn x=if (x.cd==0)=true then ⟨#[49]⟩ else ⟨#[48]⟩ by simp [zn,hh]);clear hh
   go_wp2_with (refine Y9 rfl (Fz 3 _ rfl (B:=b) (j:=off+k*4+2) rfl ((I.out _ l).1 2 _ rfl) Y2) ?_)
   refine (a1y _ (zn x) z hg.out).mono ?_;rintro e u1 ⟨rfl,g⟩
   replace n:=U0 (n.out.below g n.out.lt)
   replace l:=X5 l g
   clear g
   go_wp2_with fail
   refine (YA _ W u1 hxs.2).mono ?_;rintro e u2 ⟨rfl,g⟩
   replace n:=U0 (n.out.below g n.out.lt)
   replace l:=X5 l g
   clear g
   go_wp2_with (refine Uz rfl 9 _ _ rfl (p:=2) rfl rfl Y2 n.out (W_ rfl) ?_;intro z2 H C)
   try simp only [qq]
   go_meet
   case rel=>exact ⟨H,l.trans (C.below H8)⟩
  obtain ⟨CY,BY⟩:=hcut;obtain ⟨_,c2,h3,h4⟩:=I.out _ BY.out;have C2:=U0 c2;have H3:=U0 h3;have H4:=U0 h4;have hz:=CY.out.lt;clear n l I c2 h3 h4;generalize wc=y2 at*;have b3:Bw y2 (y2.alloc (.cells #[.bool x.has,.string x.nm,.string (Z5 (zn x) W)] 205)):=P6;have HS:=U0 (Y4 y2 [.bool x.has,.string x.nm,.string (Z5 (zn x) W)] 205);have C3:=U0 (C2.out.below b3 C2.out.lt);have H5:=U0 (own_below H3.out b3);have L:=U0 (H4.out.trans (But.of_below b3));clear H3 H4 b3
  go_wp2_with (first | (refine U9 CY.out rfl 205 _ rfl (j:=0) [.bool x.has,.string x.nm,.string (Z5 (zn x) W)] rfl rfl underlying205 rfl Y2 ?_) | (refine U8 C2.out rfl 143 _ rfl rfl rfl Y2 ?_) | (refine Xq rfl _ _ 143 rfl E.heap.size 205 3 underlying143 (Ll Y2) o6 _ k (sF W (ls.take k)) rfl H5.out _ 1 [.bool x.has,.string x.nm,.string (Z5 (zn x) W)] rfl (.inr ⟨⟨y2.heap.size,0,none⟩,1,rfl,rfl,um HS.out⟩) (o8 rfl) O0 L.out.size ?_;intro v' w6 O6 g6 _;obtain ⟨a6,c6,rfl⟩:=I9 O6;have k2:Hid (Cl w6 A 145 [.string (d_ m),.slice X k U,.string (Z5 (J3 (O8 c t.data.toList)) W)]):=(g6.block A C3.out.lt (fun h=>(by have:=hOb.out A h.symm;omega))).trans C3.out;have B6:But A E w6:=⟨g6.os.trans L.out.os,g6.tape.trans L.out.tape,g6.output.trans L.out.output,G7 L.out.size g6.size,fun q Q O=>(g6.block q (O9 Q L.out.size) (fun h=>(by have:=hOb.out q h.symm;omega))).trans (L.out.block q Q O)⟩;have H7:=U0 O6;clear O6 g6 C3 H5 L) | (refine Uz rfl 143 _ _ rfl (p:=1) rfl rfl Y2 k2.out (W_ rfl) ?_;intro z3 C7 N))
  go_roundw
  case rel=>exact ⟨k+1,.slice a6 (k+1) c6,O0,by go_num,C7,by
   show World.ownsRow _ _ _ _ _ _ _;rw [HT.out,sH];exact Uu H7.out (qj N.size.symm) (fun q _ O=>N.block q O) hAw,B6.trans ⟨N.os,N.tape,N.output,qj N.size.symm,fun q _ O=>N.block q O⟩⟩
  case measure=>simp [RowKit.intOf];omega
theorem c182 (x:G3) (l:Int) (w:World) (b:x.le 9223372036854775807) (h0:0<=l) (h1:l<=1048576):
 Calls prog 182 #[.agg #[.bool x.nm,.string x.tl,.string x.ar],.int .i64 l] w fun e w'=>(∃ r:Int,e=.returned (.int .i64 r)/\(0<=r->x.le 1048576/\r<=l))/\Bw w w':=by
 obtain ⟨s2,s3⟩:=b;have a:Hid (∀ r:Int,(0<=r->((x.tl.size:Int)<=l/\(x.ar.size:Int)<=l/\r<=l))->(0<=r->x.le 1048576/\r<=l)):=fun r h g=>by
  have:=h g;exact ⟨⟨O0,O0⟩,O0⟩
 by_cases h':l<x.tl.size
 · go_enter func182,ntmps182;go_wp2;go_ret;exact ⟨⟨-1,rfl,a.out _ fun h=>O0⟩,P6⟩
 · by_cases h'':l<x.tl.size+x.ar.size
   · go_enter func182,ntmps182;go_wp2;go_ret;exact ⟨⟨-1,rfl,a.out _ fun h=>O0⟩,P6⟩
   · go_enter func182,ntmps182;go_wp2;go_ret;exact ⟨⟨_,rfl,a.out _ fun h=>O0⟩,P6⟩
theorem eH {is:List G3} {B:Nat} (h:∀ i,i<is.length->(is.getD i Vg).le B) (i:Nat):(is.getD i Vg).le B:=by
 rcases Q7 i is.length with a | a
 · exact h i a
 · have e:is.getD i Vg=Vg:=by simp [List.getD,Yb a]
   rw [e];exact ⟨J4 _,J4 _⟩
theorem a2N (a:OA) (B:Nat) (is:List G3) (l:Int) (w:World) (h0:0<=l) (h1:l<=1048576) (y:∀ i,(is.getD i Vg).le 9223372036854775807) (hl:is.length<=9223372036854775807) (q:R_ w a is):
 Calls prog 134 #[.slice a is.length B,.int .i64 l] w fun e w'=>(∃ r:Int,e=.returned (.int .i64 r)/\(0<=r->is.length<=1048576/\(∀ i,(is.getD i Vg).le 1048576)/\r<=l - is.length))/\Bw w w':=by
 obtain ⟨b,off,hc⟩:=Ph q;have D:=U0 hc;clear hc q;by_cases hbig:l<is.length
 · go_enter func134,ntmps134;go_wp2;go_ret;exact ⟨⟨-1,rfl,fun h=>O0⟩,Z4 _ _⟩
 · go_enter func134,ntmps134
   go_wp2_with fail
   go_loopw [1,5] (fun u i wr=>∃ (k:Nat) (r:Int),k<=is.length/\i=.int .i64 k/\u=.int .i64 r/\0<=r/\r<=l - is.length/\Hid (∀ i,i<k->(is.getD i Vg).le 1048576)/\Below w.heap.size w wr) (fun _ i _=>is.length - (RowKit.intOf i).toNat)
   case atStart=>exact ⟨0,_,J4 _,rfl,rfl,O0,O0,fun i h=>absurd h (J8 _),Z4 _ _⟩
   case round=>
    obtain ⟨k,r,hk,rfl,rfl,z,n,m,c⟩:=hrel;by_cases d:k<is.length
    · obtain ⟨ha,j,f⟩:=Cc D.out d;subst ha;have g0:=(c.cell (p:=⟨b,off+k*3,none⟩) j).trans (f k d).1;have g1:=(c.cell (p:=⟨b,off+k*3+1,none⟩) j).trans (f k d).2.1;have g2:=(c.cell (p:=⟨b,off+k*3+2,none⟩) j).trans (f k d).2.2;have v:=y k;generalize hx:is.getD k Vg=x at*;have C:=U0 hx;clear hx f
      go_wp2_with fail
      refine (c182 x r wr v z O0).mono ?_;rintro e w1 ⟨⟨t,rfl,hr⟩,A⟩;have s:=X5 c A;by_cases hneg:t<0
      · clear hr;go_wp2;go_ret;exact ⟨⟨-1,rfl,fun h=>O0⟩,s⟩
      · have o:=hr O0;have g:Hid (∀ i,i<k+1->(is.getD i Vg).le 1048576):=by
         intro i h;rcases Q7 i k with h1 | h1
         · exact m.out i h1
         · obtain rfl:i=k:=O0;rw [C.out];exact o.1
        clear hr;go_wp2;go_roundw
        case rel=>exact ⟨k+1,_,O0,by go_num,rfl,O0,Int.le_trans o.2 n,g,s⟩
        case measure=>simp [RowKit.intOf];omega
    · have g:=U0 (eH (fun i h=>m.out i O0));go_wp2;go_ret;exact ⟨⟨r,rfl,fun _=>⟨O0,g.out,n⟩⟩,c⟩
theorem rH {is:List R3} {B:Nat} (h:∀ i,i<is.length->(is.getD i f_).le B) (i:Nat):(is.getD i f_).le B:=by
 rcases Q7 i is.length with a | a
 · exact h i a
 · have e:is.getD i f_=f_:=by simp [List.getD,Yb a]
   rw [e];exact ⟨J4 _,J4 _,fun i=>⟨J4 _,J4 _⟩,J4 _⟩
theorem c92 (x:R3) (a:OA) (d:Nat) (l:Int) (w:World) (q:x.le 9223372036854775807) (h0:0<=l) (h1:l<=1048576) (k:R_ w a x.gs):
 Calls prog 92 #[.agg #[.string x.key,.slice a x.gs.length d,.string x.out],.int .i64 l] w fun e w'=>(∃ r:Int,e=.returned (.int .i64 r)/\(0<=r->x.le 1048576/\r<=l - x.gs.length))/\Bw w w':=by
 obtain ⟨s1,o,f,s4⟩:=q;have c:Bw w (w.alloc (.cells #[vS x.key,vL a x.gs.length d,vS x.out] 130)):=P6;by_cases h:l<x.key.size
 · go_enter func92,ntmps92;go_wp2;go_ret;exact ⟨⟨-1,rfl,fun h=>O0⟩,c⟩
 · have m:=a2N a d x.gs (l - x.key.size) _ O0 O0 f o (P8 k c);go_enter func92,ntmps92
   go_wp2_with fail
   refine m.mono ?_;rintro e n ⟨⟨g,rfl,hr⟩,j⟩;have b:=c.trans (j.mono X4);have g2:n.cell? ⟨w.heap.size,2,none⟩=some (vS x.out):=by rw [j.cell X4];simp
   clear m k;by_cases hneg:g<0
   · clear hr;go_wp2;go_ret;exact ⟨⟨-1,rfl,fun h=>O0⟩,b⟩
   · obtain ⟨p,i,q3⟩:=hr O0;have s:=U0 i;clear hr i f;by_cases ho:g<x.out.size
     · go_wp2;go_ret;exact ⟨⟨-1,rfl,fun h=>O0⟩,b⟩
     · go_wp2;go_ret;exact ⟨⟨_,rfl,fun h=>⟨⟨O0,p,s.out,O0⟩,O0⟩⟩,b⟩
theorem c51 (a:OA) (C:Nat) (is:List R3) (l:Int) (w:World) (h0:0<=l) (h1:l<=1048576) (m:∀ i,(is.getD i f_).le 9223372036854775807) (hl:is.length<=9223372036854775807) (p:ug w a is):
 Calls prog 51 #[.slice a is.length C,.int .i64 l] w fun e w'=>(∃ r:Int,e=.returned (.int .i64 r)/\(0<=r->is.length<=1048576/\(∀ i,(is.getD i f_).le 1048576)/\r<=l - is.length - Px is))/\Bw w w':=by
 obtain ⟨b,off,hc⟩:=Ie p;have H:=U0 hc;have F:=U0 m;clear hc p m;by_cases hbig:l<is.length
 · go_enter func51,ntmps51;go_wp2;go_ret;exact ⟨⟨-1,rfl,fun h=>O0⟩,Z4 _ _⟩
 · go_enter func51,ntmps51
   go_wp2_with fail
   go_loopw [1,5] (fun t i wr=>∃ (k:Nat) (r:Int),k<=is.length/\i=.int .i64 k/\t=.int .i64 r/\0<=r/\r<=l - is.length - Px (is.take k)/\Hid (∀ i,i<k->(is.getD i f_).le 1048576)/\Below w.heap.size w wr) (fun _ i _=>is.length - (RowKit.intOf i).toNat)
   case atStart=>exact ⟨0,_,J4 _,rfl,rfl,O0,by simp [Px],fun i h=>absurd h (J8 _),Z4 _ _⟩
   case round=>
    obtain ⟨k,r,hk,rfl,rfl,v,n,j,g⟩:=hrel;by_cases f:k<is.length
    · obtain ⟨ha,y,o⟩:=Cc H.out f;subst ha;obtain ⟨D,B,e0,e1,e2,A⟩:=(o k f).below y g;have u:=F.out k;have hgs:=xM f;generalize hx:is.getD k f_=x at*;have E:=U0 hx;clear hx o
      go_wp2_with fail
      refine (c92 x D B r wr u v O0 A).mono ?_;rintro e w1 ⟨⟨s,rfl,hr⟩,z⟩;have q:=X5 g z;by_cases hneg:s<0
      · clear hr;go_wp2;go_ret;exact ⟨⟨-1,rfl,fun h=>O0⟩,q⟩
      · have d:=hr O0;have c:Hid (∀ i,i<k+1->(is.getD i f_).le 1048576):=by
         intro i h;rcases Q7 i k with h1 | h1
         · exact j.out i h1
         · obtain rfl:i=k:=O0;rw [E.out];exact d.1
        have hr2:=d.2;clear hr d;go_wp2;go_roundw
        case rel=>exact ⟨k+1,_,O0,by go_num,rfl,O0,O0,c,q⟩
        case measure=>simp [RowKit.intOf];omega
    · have c:=U0 (rH (fun i h=>j.out i O0));go_wp2;go_ret;exact ⟨⟨r,rfl,fun _=>⟨O0,c.out,by rw [l_ O0] at n;exact n⟩⟩,g⟩
theorem c13 (ta ra:OA) (tc rc:Nat) (s:St) (l:Int) (w:World) (h0:0<=l) (hl:l<=1048576) (p:s.le 9223372036854775807) (g:Ig w ta ra s):
 Calls prog 13 #[.agg #[.int .i64 s.wd,.slice ta s.ts.length tc,.slice ra s.rs.length rc],.int .i64 l] w fun e w'=>(∃ r:Int,e=.returned (.int .i64 r)/\(0<=r->(s.le 1048576/\s.ts.length+s.rs.length+Px s.rs<=1048576)/\r<=l))/\Bw w w':=by
 obtain ⟨⟨h1,h2⟩,u,j⟩:=p;have a:Bw w (w.alloc (.cells #[vI s.wd,vL ta s.ts.length tc,vL ra s.rs.length rc] 30)):=P6;have c:=(Hid.out (show Hid (Ig _ ta ra s) from g.below a));have m:=c15 ta tc s.ts l _ h0 hl h2 h1 c.1;have y:=U0 j;have v:=U0 c.2;clear g c j h2;go_enter func13,ntmps13
 go_wp2_with fail
 refine m.mono ?_;rintro e w1 ⟨⟨d,rfl,hr⟩,hw⟩;obtain rfl:=hw;clear m;by_cases q:d<0
 · clear hr;go_wp2;go_ret;exact ⟨⟨-1,rfl,fun h=>O0⟩,a⟩
 · obtain ⟨o,f,q3⟩:=hr O0;have x:=U0 f;clear hr f;have k:=c51 ra rc s.rs d _ O0 O0 y.out u v.out
   go_wp2_with fail
   refine k.mono ?_;rintro e w2 ⟨⟨n,rfl,hr⟩,t⟩;have i:=a.trans (t.mono X4);have b:=U0 hr;clear k hr;by_cases q:n<0
   · go_wp2;go_ret;exact ⟨⟨-1,rfl,fun h=>O0⟩,i⟩
   · have hr2:=(b.out O0).2.2;go_wp2;go_ret;exact ⟨⟨_,rfl,fun h=>⟨⟨⟨⟨o,x.out⟩,(b.out h).1,(b.out h).2.1⟩,O0⟩,O0⟩⟩,i⟩
theorem c131 (c:Int) (s:BY) (w:World):
 Calls prog 131 #[.agg #[.int .i64 c,.string s],.agg #[.int .i64 c,.string s]] w fun e w'=>e=.returned (.bool true)/\Bw w w':=by
 go_enter func131,ntmps131;go_wp2;go_ret;exact ⟨rfl,P6.alloc X4 _⟩
theorem dG {is:List L4} {B:Nat} (h:∀ i,i<is.length->(is.getD i E_).le B) (i:Nat):(is.getD i E_).le B:=by
 rcases Q7 i is.length with a | a
 · exact h i a
 · have e:is.getD i E_=E_:=by simp [List.getD,Yb a]
   rw [e];exact ⟨J4 _,J4 _⟩
theorem a2W (x:L4) (w:World):
 Calls prog 181 #[.agg #[.bool x.has,.string x.nm,.int .i64 x.cd,.string x.tx],.agg #[.bool x.has,.string x.nm,.int .i64 x.cd,.string x.tx]] w fun e w'=>e=.returned (.bool true)/\Bw w w':=by
 go_enter func181,ntmps181
 go_wp2_with fail
 have hB:∀ o1 o2,Bw w ((w.alloc o1).alloc o2):=fun o1 o2=>P6.alloc X4 _;refine (c131 x.cd x.tx _).mono ?_;rintro e w1 ⟨rfl,a⟩;go_wp2;go_ret;exact ⟨rfl,(hB _ _).trans (a.mono U7)⟩
theorem c130 (a q:OA) (u t:Nat) (is:List L4) (w:World) (hl:is.length<=1048576) (o:o9 w a is) (n:o9 w q is):
 Calls prog 130 #[.slice a is.length u,.slice q is.length t] w fun e w'=>e=.returned (.bool true)/\Bw w w':=by
 obtain ⟨b,off,hc⟩:=xg o;have y:=U0 hc;clear hc o;obtain ⟨b',h,m⟩:=xg n;have v:=U0 m;clear m n;go_enter func130,ntmps130
 go_wp2_with fail
 go_loopw [5] (fun i wr=>∃ (k:Nat),k<=is.length/\i=.int .i64 k/\Below w.heap.size w wr) (fun i _=>is.length - (RowKit.intOf i).toNat)
 case atStart=>exact ⟨0,J4 _,rfl,Z4 _ _⟩
 case round=>
  obtain ⟨k,hk,rfl,c⟩:=hrel;by_cases d:k<is.length
  · obtain ⟨ha,l,g⟩:=Cc y.out d;obtain ⟨s,j,f⟩:=Cc v.out d;subst ha;subst s;have g0:=(c.cell (p:=⟨b,off+k*4,none⟩) l).trans (g k d).1;have g1:=(c.cell (p:=⟨b,off+k*4+1,none⟩) l).trans (g k d).2.1;have g2:=(c.cell (p:=⟨b,off+k*4+2,none⟩) l).trans (g k d).2.2.1;have g3:=(c.cell (p:=⟨b,off+k*4+3,none⟩) l).trans (g k d).2.2.2;have g0':=(c.cell (p:=⟨b',h+k*4,none⟩) j).trans (f k d).1;have g1':=(c.cell (p:=⟨b',h+k*4+1,none⟩) j).trans (f k d).2.1;have g2':=(c.cell (p:=⟨b',h+k*4+2,none⟩) j).trans (f k d).2.2.1;have g3':=(c.cell (p:=⟨b',h+k*4+3,none⟩) j).trans (f k d).2.2.2;generalize is.getD k E_=x at*;clear g f
    go_wp2_with fail
    go_region_with (go_at_call 181;refine (a2W x _).mono ?_;rintro e w1 ⟨rfl,r⟩)
    all_goals go_wp2
    all_goals go_roundw
    all_goals first
     | exact ⟨k+1,O0,by go_num,(c.drew).trans (r.mono c.size)⟩
     | (simp [RowKit.intOf];omega)
  · go_wp2;go_ret;exact ⟨rfl,c⟩
theorem c94 (cd:Int) (tx:BY) (l:Int) (w:World) (hs:tx.size<=9223372036854775807) (h0:0<=l) (h1:l<=1048576):
 Calls prog 94 #[.agg #[.int .i64 cd,.string tx],.int .i64 l] w fun e w'=>(∃ r:Int,e=.returned (.int .i64 r)/\(0<=r->tx.size<=1048576/\r<=1048576))/\Bw w w':=by
 by_cases h':l<tx.size
 · go_enter func94,ntmps94;go_wp2;go_ret;exact ⟨⟨-1,rfl,fun h=>O0⟩,P6⟩
 · go_enter func94,ntmps94;go_wp2;go_ret;exact ⟨⟨_,rfl,fun h=>O0⟩,P6⟩
theorem a3L (x:L4) (l:Int) (w:World) (d:x.le 9223372036854775807) (h0:0<=l) (h1:l<=1048576):
 Calls prog 135 #[.agg #[.bool x.has,.string x.nm,.int .i64 x.cd,.string x.tx],.int .i64 l] w fun e w'=>(∃ r:Int,e=.returned (.int .i64 r)/\(0<=r->x.le 1048576/\r<=1048576))/\Bw w w':=by
 obtain ⟨s2,c⟩:=d;by_cases h':l<x.nm.size
 · go_enter func135,ntmps135;go_wp2;go_ret;exact ⟨⟨-1,rfl,fun h=>O0⟩,P6⟩
 · have g:=fun u=>c94 x.cd x.tx (l - x.nm.size) u c O0 O0;go_enter func135,ntmps135
   go_wp2_with fail
   refine (g _).mono ?_;rintro e w1 ⟨⟨r,rfl,hr⟩,f⟩;have b:=P6.trans (f.mono X4);by_cases hn:r<0
   · clear hr;go_wp2;go_ret;exact ⟨⟨-1,rfl,fun h=>O0⟩,b⟩
   · have a:=hr O0;clear hr;go_wp2;go_ret;exact ⟨⟨r,rfl,fun h=>⟨⟨O0,a.1⟩,a.2⟩⟩,b⟩
theorem c93 (a:OA) (A:Nat) (is:List L4) (l:Int) (w:World) (h0:0<=l) (h1:l<=1048576) (v:∀ i,(is.getD i E_).le 9223372036854775807) (hl:is.length<=9223372036854775807) (q:o9 w a is):
 Calls prog 93 #[.slice a is.length A,.int .i64 l] w fun e w'=>(∃ r:Int,e=.returned (.int .i64 r)/\(0<=r->is.length<=1048576/\(∀ i,(is.getD i E_).le 1048576)/\r<=1048576))/\Bw w w':=by
 obtain ⟨b,off,hc⟩:=xg q;have C:=U0 hc;clear hc q;by_cases hbig:l<is.length
 · go_enter func93,ntmps93;go_wp2;go_ret;exact ⟨⟨-1,rfl,fun h=>O0⟩,Z4 _ _⟩
 · go_enter func93,ntmps93
   go_wp2_with fail
   go_loopw [1,5] (fun l i wr=>∃ (k:Nat) (r:Int),k<=is.length/\i=.int .i64 k/\l=.int .i64 r/\0<=r/\r<=1048576/\Hid (∀ i,i<k->(is.getD i E_).le 1048576)/\Below w.heap.size w wr) (fun _ i _=>is.length - (RowKit.intOf i).toNat)
   case atStart=>exact ⟨0,_,J4 _,rfl,rfl,O0,O0,fun i h=>absurd h (J8 _),Z4 _ _⟩
   case round=>
    obtain ⟨k,r,hk,rfl,rfl,y,n,m,c⟩:=hrel;by_cases d:k<is.length
    · obtain ⟨ha,g,f⟩:=Cc C.out d;subst ha;have g0:=(c.cell (p:=⟨b,off+k*4,none⟩) g).trans (f k d).1;have g1:=(c.cell (p:=⟨b,off+k*4+1,none⟩) g).trans (f k d).2.1;have g2:=(c.cell (p:=⟨b,off+k*4+2,none⟩) g).trans (f k d).2.2.1;have g3:=(c.cell (p:=⟨b,off+k*4+3,none⟩) g).trans (f k d).2.2.2;have u:=v k;generalize hx:is.getD k E_=x at*;have B:=U0 hx;clear hx f
      go_wp2_with fail
      refine (a3L x r wr u y n).mono ?_;rintro e w1 ⟨⟨t,rfl,hr⟩,z⟩;have s:=X5 c z;by_cases hneg:t<0
      · clear hr;go_wp2;go_ret;exact ⟨⟨-1,rfl,fun h=>O0⟩,s⟩
      · have o:=hr O0;have j:Hid (∀ i,i<k+1->(is.getD i E_).le 1048576):=by
         intro i h;rcases Q7 i k with h1 | h1
         · exact m.out i h1
         · obtain rfl:i=k:=O0;rw [B.out];exact o.1
        clear hr;go_wp2;go_roundw
        case rel=>exact ⟨k+1,_,O0,by go_num,rfl,O0,o.2,j,s⟩
        case measure=>simp [RowKit.intOf];omega
    · have j:=U0 (dG (fun i h=>m.out i O0));go_wp2;go_ret;exact ⟨⟨r,rfl,fun _=>⟨O0,j.out,n⟩⟩,c⟩
theorem a2u (x:R3) (a:OA) (d:Nat) (w:World) (hl:x.gs.length<=1048576) (i:R_ w a x.gs):
 Calls prog 104 #[.agg #[.string x.key,.slice a x.gs.length d,.string x.out]] w fun e w'=>(∃ v,e=.returned (.agg #[.string x.key,v,.string x.out])/\Aq w.heap.size w' R_ 205 3 x.gs v)/\Bw w w':=by
 have m:=U0 i;clear i;go_enter func104,ntmps104
 go_upto_region 2 with fail
 have H:=U0 (Wi (w:=w) (ta:=130) (tr:=145) (ar:=[vS x.key,vL a x.gs.length d,vS x.out]) (zs:=[vE,vN,vE]));generalize ((w.alloc (.cells #[vS x.key,vL a x.gs.length d,vS x.out] 130)).alloc (.cells #[vE,vN,vE] 145)).alloc (.cells #[vE,vN,vE] 145)=V at*
 go_wp2_with (first | (refine U8 H.out.ca rfl _ _ rfl rfl rfl Y2 ?_) | (refine Xd H.out rfl 9 _ _ rfl (j:=0) (vS x.key) rfl rfl rfl (W_ rfl) Y2 ?_;clear H;intro V H))
 refine (c148 a d x.gs V hl (KU (P8 m.out H.out.bel))).mono ?_;rintro e V1 ⟨⟨_,rfl,g,f,rfl,k,b⟩,c⟩
 replace H:=U0 (H.out.call c (oP b H.out.bel.size))
 clear c b
 go_wp2_with (first | (refine U8 H.out.ca rfl _ _ rfl rfl rfl Y2 ?_) | (refine Xd H.out rfl 143 _ _ rfl (j:=1) (vL g x.gs.length f) rfl rfl rfl (W_ rfl) Y2 ?_;clear H;intro V H) | (refine Xd H.out rfl 9 _ _ rfl (j:=2) (vS x.out) rfl rfl rfl (W_ rfl) Y2 ?_;clear H;intro V H) | (refine IA H.out rfl 145 _ rfl [vS x.key,vL g x.gs.length f,vS x.out] rfl rfl underlying145 rfl Y2 ?_) | (refine Kz H.out rfl 145 _ _ rfl [vS x.key,vL g x.gs.length f,vS x.out] rfl rfl rfl rfl Y2 ?_;clear H;intro z l b c))
 exact Y6 (Q8 (P:=prog) (ty:=145) rfl _ z (w.heap.size+1) [vS x.key,vL g x.gs.length f,vS x.out] _ rfl l underlying145 rfl Y2) rfl ⟨⟨_,rfl,_,_,rfl,k,b.imp (fun u h=>⟨LW h.2.1,h.2.2⟩)⟩,c⟩
theorem c66 (a:OA) (R:Nat) (is:List R3) (w:World) (hl:is.length<=1048576) (A:∀ i,(R3.gs (is.getD i f_)).length<=1048576) (D:ug w a is):
 Calls prog 66 #[.slice a is.length R] w fun e w'=>(∃ v,e=.returned v/\EZ w.heap.size w' ug 145 3 1 205 3 is v)/\Bw w w':=by
 obtain ⟨b,off,hc⟩:=Ie D;have W:=U0 hc;have F:=U0 A;clear hc D A;have hmk:=Pv (z:=[vE,vN,vE]) underlying41 (show (prog.info? 145).map (fun i=>(i.zero,i.size,i.bytes))=some (some (.agg #[vE,vN,vE]),3,56) from Y2) rfl rfl o6 hl;go_enter func66,ntmps66
 go_wp2_with fail
 go_loopw [4] (fun i wr=>∃ (k:Nat) (ps:List (R3×Value)),k<=is.length/\i=.int .i64 k/\Below w.heap.size w wr/\Hid (ps.map Prod.fst=is.take k)/\Hid (Cl wr w.heap.size 145 (ps.flatMap rY++zs [.string ⟨#[]⟩,.slice none 0 0,.string ⟨#[]⟩] (is.length - k)))/\Hid (∀ p∈ps,Aq (w.heap.size+1) wr R_ 205 3 (R3.gs p.1) p.2)) (fun i _=>is.length - (RowKit.intOf i).toNat)
 case atStart=>exact ⟨0,[],J4 _,rfl,P6,rfl,Y4 _ _ _,fun p c=>absurd c Sm⟩
 case round=>
  obtain ⟨k,ps,hk,rfl,q,c,hc,E⟩:=hrel;by_cases n:k<is.length;rotate_left
  · obtain rfl:k=is.length:=O0;have hd:=U0 (DJ (d:=f_) (f:=rY) (m:=3) (j:=1) (RS:=ug) (fun _=>rfl) (fun _=>rfl) F.out (fun u g L h=>.inr ⟨g,0,rfl,L,fun i K=>by obtain ⟨t,s,hB,O⟩:=h i K;exact ⟨t,s,hB 0 _ rfl,hB 1 _ rfl,hB 2 _ rfl,O⟩⟩) c.out hc.out E.out);go_wp2;go_ret;exact ⟨⟨_,rfl,hd.out⟩,q⟩
  obtain ⟨ha,N,C⟩:=Cc W.out n;subst ha;obtain ⟨t,s,g0,g1,g2,Q⟩:=(C k n).below N q;have J:=F.out k;have y:=U0 (CJ (d:=f_) (z:=[vE,vN,vE]) (f:=rY) (m:=3) (fun _=>rfl) rfl c.out n);generalize is.getD k f_=x at*;clear C
  go_wp2_with fail
  refine (a2u x t s wr J Q).mono ?_;rintro e I ⟨⟨v,rfl,hv⟩,o⟩;have P:=X5 q o;have V:=U0 (hc.out.below o hc.out.lt);have S:=U0 (hv.low (b':=w.heap.size+1) (by have:=hc.out.lt;omega));have U:Hid (∀ p∈ps,Aq (w.heap.size+1) I R_ 205 3 (R3.gs p.1) p.2):=fun p c=>(E.out p c).below o;have X:Hid (∀ u∈rY (x,v),u.oneCell'=true):=by
   obtain ⟨_,_,rfl,_⟩:=hv;exact o8 rfl
  clear hv
  go_wp2_with (refine y9 rfl 145 _ _ rfl (B:=w.heap.size) (j:=k*3) rfl (vs:=rY (x,v)) rfl V.out (y.out v).2.1 X.out Y2 ?_;intro z r l;rw [(y.out v).2.2] at r;have Y:=U0 r;have bz:=P.trans (l.below H8);have H:=U0 l;clear r l)
  go_roundw
  case rel=>
   refine ⟨k+1,ps++[(x,v)],O0,by go_num,bz,(y.out v).1,Y,fun p c=>?_⟩;rcases Yg.1 c with h | h
   · exact (U.out p h).on H.out O0
   rw [Dv.1 h];exact S.out.on H.out O0
  case measure=>simp [RowKit.intOf];omega
def StO (A:Nat) (u:World) (a:OA) (g:Nat) (s:St):Prop:=qw A u a 9 s.ts.length/\qw A u (some ⟨g,0,none⟩) 145 (s.rs.length*3)/\InO u g s.rs.length 3 1 205 3
theorem c22 (ta ra:OA) (tc rc:Nat) (s:St) (w:World) (n:s.le 1048576) (o:Ig w ta ra s):
 Calls prog 22 #[.agg #[.int .i64 s.wd,.slice ta s.ts.length tc,.slice ra s.rs.length rc]] w fun e w'=>(∃ a c g r,e=.returned (.agg #[.int .i64 s.wd,.slice a s.ts.length c,.slice (some ⟨g,0,none⟩) s.rs.length r])/\Kp w.heap.size w' fun u=>Ig u a (some ⟨g,0,none⟩) s/\StO w.heap.size u a g s)/\Bw w w':=by
 have p:=U0 o;have m:=U0 n;clear o n;go_enter func22,ntmps22
 go_upto_region 2 with fail
 have H:=U0 (Wi (w:=w) (ta:=30) (tr:=43) (ar:=[vI s.wd,vL ta s.ts.length tc,vL ra s.rs.length rc]) (zs:=[vO,vN,vN]));generalize ((w.alloc (.cells #[vI s.wd,vL ta s.ts.length tc,vL ra s.rs.length rc] 30)).alloc (.cells #[vO,vN,vN] 43)).alloc (.cells #[vO,vN,vN] 43)=V at*
 go_wp2_with (first | (refine U8 H.out.ca rfl _ _ rfl rfl rfl Y2 ?_) | (refine Xd H.out rfl 3 _ _ rfl (j:=0) (vI s.wd) rfl rfl rfl (W_ rfl) Y2 ?_;clear H;intro V H))
 refine (qV ta tc s.ts V m.out.1.1 (U5 p.out.1 H.out.bel)).mono ?_;rintro e V1 ⟨⟨_,rfl,l,f,rfl,_,b⟩,d⟩
 replace H:=U0 (H.out.call d (YQ b H.out.bel.size))
 clear d b
 go_wp2_with (first | (refine U8 H.out.ca rfl _ _ rfl rfl rfl Y2 ?_) | (refine Xd H.out rfl 22 _ _ rfl (j:=1) (vL l s.ts.length f) rfl rfl rfl (W_ rfl) Y2 ?_;clear H;intro V H))
 refine (c66 ra rc s.rs V m.out.2.1 (fun i=>(m.out.2.2 i).2.1) (dh p.out.2 H.out.bel)).mono ?_;rintro e V1 ⟨⟨_,rfl,k,c2,rfl,b⟩,d⟩
 replace H:=U0 (H.out.call d (a1r b H.out.bel.size))
 clear d b
 go_wp2_with (first | (refine U8 H.out.ca rfl _ _ rfl rfl rfl Y2 ?_) | (refine Xd H.out rfl 41 _ _ rfl (j:=2) (vL (some (aA k 0)) s.rs.length c2) rfl rfl rfl (W_ rfl) Y2 ?_;clear H;intro V H) | (refine IA H.out rfl 43 _ rfl [vI s.wd,vL l s.ts.length f,vL (some (aA k 0)) s.rs.length c2] rfl rfl underlying43 rfl Y2 ?_) | (refine Kz H.out rfl 43 _ _ rfl [vI s.wd,vL l s.ts.length f,vL (some (aA k 0)) s.rs.length c2] rfl rfl rfl rfl Y2 ?_;clear H;intro z q b d))
 exact Y6 (Q8 (P:=prog) (ty:=43) rfl _ z (w.heap.size+1) [vI s.wd,vL l s.ts.length f,vL (some (aA k 0)) s.rs.length c2] _ rfl q underlying43 rfl Y2) rfl ⟨⟨_,_,_,_,rfl,b.imp (fun u h=>⟨⟨h.1.2.1,h.2.1⟩,h.1.2.2,h.2.2.1,h.2.2.2⟩)⟩,d⟩
theorem c67 (x:Rn) (b:OA) (d:Nat) (w:World) (hl:x.ls.length<=1048576) (i:o9 w b x.ls):
 Calls prog 67 #[.agg #[.string x.nm,.int .i64 x.md,.string x.wt,.slice b x.ls.length d,.int .i64 x.cd,.string x.tx]] w fun e w'=>(∃ v,e=.returned (.agg #[.string x.nm,.int .i64 x.md,.string x.wt,v,.int .i64 x.cd,.string x.tx])/\Aq w.heap.size w' o9 185 4 x.ls v)/\Bw w w':=by
 have m:=U0 i;clear i;go_enter func67,ntmps67
 go_upto_region 2 with fail
 have H:=U0 (Wi (w:=w) (ta:=88) (tr:=105) (ar:=[vS x.nm,vI x.md,vS x.wt,vL b x.ls.length d,vI x.cd,vS x.tx]) (zs:=[vE,vO,vE,vN,vO,vE]));generalize ((w.alloc (.cells #[vS x.nm,vI x.md,vS x.wt,vL b x.ls.length d,vI x.cd,vS x.tx] 88)).alloc (.cells #[vE,vO,vE,vN,vO,vE] 105)).alloc (.cells #[vE,vO,vE,vN,vO,vE] 105)=V at*
 go_wp2_with (first | (refine U8 H.out.ca rfl _ _ rfl rfl rfl Y2 ?_) | (refine Xd H.out rfl 9 _ _ rfl (j:=0) (vS x.nm) rfl rfl rfl (W_ rfl) Y2 ?_;clear H;intro V H) | (refine Xd H.out rfl 3 _ _ rfl (j:=1) (vI x.md) rfl rfl rfl (W_ rfl) Y2 ?_;clear H;intro V H) | (refine Xd H.out rfl 9 _ _ rfl (j:=2) (vS x.wt) rfl rfl rfl (W_ rfl) Y2 ?_;clear H;intro V H))
 refine (c105 b d x.ls V hl (kW (l7 m.out H.out.bel))).mono ?_;rintro e V1 ⟨⟨_,rfl,g,f,rfl,k,c⟩,a⟩
 replace H:=U0 (H.out.call a (oP c H.out.bel.size))
 clear a c
 go_wp2_with (first | (refine U9 H.out.ca rfl 86 _ rfl (j:=4) [vI x.cd,vS x.tx] rfl rfl underlying86 rfl Y2 ?_) | (refine U8 H.out.ca rfl _ _ rfl rfl rfl Y2 ?_) | (refine Xd H.out rfl 102 _ _ rfl (j:=3) (vL g x.ls.length f) rfl rfl rfl (W_ rfl) Y2 ?_;clear H;intro V H))
 refine (a0K x.cd x.tx V).mono ?_;rintro e V1 ⟨rfl,a⟩
 replace H:=U0 (H.out.call a (Q:=fun _=>True) (fun _ _ _=>trivial))
 clear a
 go_wp2_with (first | (refine U8 H.out.ca rfl _ _ rfl rfl rfl Y2 ?_) | (refine VG H.out rfl 103 _ _ rfl (j:=4) [vI x.cd,vS x.tx] rfl rfl (W_ rfl) rfl Y2 ?_;clear H;intro V H) | (refine IA H.out rfl 105 _ rfl [vS x.nm,vI x.md,vS x.wt,vL g x.ls.length f,vI x.cd,vS x.tx] rfl rfl underlying105 rfl Y2 ?_) | (refine Kz H.out rfl 105 _ _ rfl [vS x.nm,vI x.md,vS x.wt,vL g x.ls.length f,vI x.cd,vS x.tx] rfl rfl rfl rfl Y2 ?_;clear H;intro z l c a))
 exact Y6 (Q8 (P:=prog) (ty:=105) rfl _ z (w.heap.size+1) [vS x.nm,vI x.md,vS x.wt,vL g x.ls.length f,vI x.cd,vS x.tx] _ rfl l underlying105 rfl Y2) rfl ⟨⟨_,rfl,_,_,rfl,k,c.imp (fun u h=>⟨WW h.1.2.1,h.1.2.2⟩)⟩,a⟩
theorem c25 (a:OA) (S:Nat) (is:List Rn) (w:World) (hl:is.length<=1048576) (A:∀ i,(Rn.ls (is.getD i X_)).length<=1048576) (D:Aj w a is):
 Calls prog 25 #[.slice a is.length S] w fun e w'=>(∃ v,e=.returned v/\EZ w.heap.size w' Aj 105 6 3 185 4 is v)/\Bw w w':=by
 obtain ⟨b,off,hc⟩:=N_ D;have X:=U0 hc;have H:=U0 A;clear hc D A;have hmk:=Pv (z:=[vE,vO,vE,vN,vO,vE]) underlying44 (show (prog.info? 105).map (fun i=>(i.zero,i.size,i.bytes))=some (some (.agg #[vE,vO,vE,vN,vO,vE]),6,88) from Y2) rfl rfl o6 hl;go_enter func25,ntmps25
 go_wp2_with fail
 go_loopw [4] (fun i wr=>∃ (k:Nat) (ps:List (Rn×Value)),k<=is.length/\i=.int .i64 k/\Below w.heap.size w wr/\Hid (ps.map Prod.fst=is.take k)/\Hid (Cl wr w.heap.size 105 (ps.flatMap Nz++zs [.string ⟨#[]⟩,.int .i64 0,.string ⟨#[]⟩,.slice none 0 0,.int .i64 0,.string ⟨#[]⟩] (is.length - k)))/\Hid (∀ p∈ps,Aq (w.heap.size+1) wr o9 185 4 (Rn.ls p.1) p.2)) (fun i _=>is.length - (RowKit.intOf i).toNat)
 case atStart=>exact ⟨0,[],J4 _,rfl,P6,rfl,Y4 _ _ _,fun p c=>absurd c Sm⟩
 case round=>
  obtain ⟨k,ps,hk,rfl,s,c,hc,E⟩:=hrel;by_cases q:k<is.length;rotate_left
  · obtain rfl:k=is.length:=O0;have hd:=U0 (DJ (d:=X_) (f:=Nz) (m:=6) (j:=3) (RS:=Aj) (fun _=>rfl) (fun _=>rfl) H.out (fun u g N h=>.inr ⟨g,0,rfl,N,fun i L=>by obtain ⟨n,l,hB,P⟩:=h i L;exact ⟨n,l,hB,P⟩⟩) c.out hc.out E.out);go_wp2;go_ret;exact ⟨⟨_,rfl,hd.out⟩,s⟩
  obtain ⟨ha,O,C⟩:=Cc X.out q;subst ha;obtain ⟨n,l,F,R⟩:=(C k q).below O s;have Z:=U0 F;clear F;have K:=H.out k;have y:=U0 (CJ (d:=X_) (z:=[vE,vO,vE,vN,vO,vE]) (f:=Nz) (m:=6) (fun _=>rfl) rfl c.out q);generalize is.getD k X_=x at*;clear C
  go_wp2_with (refine Y9 rfl (X8 88 _ rfl (B:=b) (j:=off+k*6) (cs:=Nz (x,vL n x.ls.length l)) rfl Z.out underlying88 rfl Y2) ?_)
  refine (c67 x n l wr K R).mono ?_;rintro e J ⟨⟨v,rfl,hv⟩,r⟩;have Q:=X5 s r;have W:=U0 (hc.out.below r hc.out.lt);have U:=U0 (hv.low (b':=w.heap.size+1) (by have:=hc.out.lt;omega));have V:Hid (∀ p∈ps,Aq (w.heap.size+1) J o9 185 4 (Rn.ls p.1) p.2):=fun p c=>(E.out p c).below r;have Y:Hid (∀ u∈Nz (x,v),u.oneCell'=true):=by
   obtain ⟨_,_,rfl,_⟩:=hv;exact o8 rfl
  clear hv
  go_wp2_with (refine y9 rfl 105 _ _ rfl (B:=w.heap.size) (j:=k*6) rfl (vs:=Nz (x,v)) rfl W.out (y.out v).2.1 Y.out Y2 ?_;intro z t o;rw [(y.out v).2.2] at t;have CZ:=U0 t;have bz:=Q.trans (o.below H8);have I:=U0 o;clear t o)
  go_roundw
  case rel=>
   refine ⟨k+1,ps++[(x,v)],O0,by go_num,bz,(y.out v).1,CZ,fun p c=>?_⟩;rcases Yg.1 c with h | h
   · exact (V.out p h).on I.out O0
   rw [Dv.1 h];exact U.out.on I.out O0
  case measure=>simp [RowKit.intOf];omega
theorem c20 (sa la:OA) (sc lc:Nat) (sf lo:LB) (w:World) (h1:sf.length<=1048576) (h2:lo.length<=1048576) (l:P7 w sa sf) (hl:P7 w la lo):
 Calls prog 20 #[.agg #[.slice sa sf.length sc,.slice la lo.length lc]] w fun e w'=>(∃ a c k m,e=.returned (.agg #[.slice a sf.length c,.slice k lo.length m])/\lo.length<=m/\Kp w.heap.size w' fun u=>(P7 u a sf/\qw w.heap.size u a 9 sf.length)/\P7 u k lo/\qw w.heap.size u k 9 lo.length)/\Bw w w':=by
 have q:=U0 l;have p:=U0 hl;clear l hl;go_enter func20,ntmps20
 go_upto_region 2 with fail
 have H:=U0 (Wi (w:=w) (ta:=24) (tr:=37) (ar:=[vL sa sf.length sc,vL la lo.length lc]) (zs:=[vN,vN]));generalize ((w.alloc (.cells #[vL sa sf.length sc,vL la lo.length lc] 24)).alloc (.cells #[vN,vN] 37)).alloc (.cells #[vN,vN] 37)=V at*
 go_wp2_with (first | (refine U8 H.out.ca rfl _ _ rfl rfl rfl Y2 ?_))
 refine (qV sa sc sf V h1 (U5 q.out H.out.bel)).mono ?_;rintro e V1 ⟨⟨_,rfl,i,f,rfl,_,b⟩,d⟩
 replace H:=U0 (H.out.call d (YQ b H.out.bel.size))
 clear d b
 go_wp2_with (first | (refine U8 H.out.ca rfl _ _ rfl rfl rfl Y2 ?_) | (refine Xd H.out rfl 22 _ _ rfl (j:=0) (vL i sf.length f) rfl rfl rfl (W_ rfl) Y2 ?_;clear H;intro V H))
 refine (qV la lc lo V h2 (U5 p.out H.out.bel)).mono ?_;rintro e V1 ⟨⟨_,rfl,g,c2,rfl,n,b⟩,d⟩
 replace H:=U0 (H.out.call d (YQ b H.out.bel.size))
 clear d b
 go_wp2_with (first | (refine U8 H.out.ca rfl _ _ rfl rfl rfl Y2 ?_) | (refine Xd H.out rfl 22 _ _ rfl (j:=1) (vL g lo.length c2) rfl rfl rfl (W_ rfl) Y2 ?_;clear H;intro V H) | (refine IA H.out rfl 37 _ rfl [vL i sf.length f,vL g lo.length c2] rfl rfl underlying37 rfl Y2 ?_) | (refine Kz H.out rfl 37 _ _ rfl [vL i sf.length f,vL g lo.length c2] rfl rfl rfl rfl Y2 ?_;clear H;intro z o b d))
 exact Y6 (Q8 (P:=prog) (ty:=37) rfl _ z (w.heap.size+1) [vL i sf.length f,vL g lo.length c2] _ rfl o underlying37 rfl Y2) rfl ⟨⟨_,_,_,_,rfl,n,b.imp (fun u h=>⟨h.1.2,h.2⟩)⟩,d⟩
theorem c21 (a:OA) (f:Nat) (is:List T.F2) (w:World) (hl:is.length<=1048576) (k:T.G6 w a is):
 Calls prog 21 #[.agg #[.slice a is.length f]] w fun e w'=>(∃ a c,e=.returned (.agg #[.slice a is.length c])/\Kp w.heap.size w' fun u=>T.G6 u a is/\qw w.heap.size u a 133 (is.length*2))/\Bw w w':=by
 have m:=U0 k;clear k;go_enter func21,ntmps21
 go_upto_region 2 with fail
 have H:=U0 (Wi (w:=w) (ta:=27) (tr:=40) (ar:=[vL a is.length f]) (zs:=[vN]));generalize ((w.alloc (.cells #[vL a is.length f] 27)).alloc (.cells #[vN] 40)).alloc (.cells #[vN] 40)=V at*
 go_wp2_with (first | (refine U8 H.out.ca rfl _ _ rfl rfl rfl Y2 ?_))
 refine (c65 a f is V hl (zX (T.J5 m.out H.out.bel))).mono ?_;rintro e V1 ⟨⟨_,rfl,i,g,rfl,hq,b⟩,d⟩
 replace H:=U0 (H.out.call d (oP b H.out.bel.size))
 clear d b
 go_wp2_with (first | (refine U8 H.out.ca rfl _ _ rfl rfl rfl Y2 ?_) | (refine Xd H.out rfl 38 _ _ rfl (j:=0) (vL i is.length g) rfl rfl rfl (W_ rfl) Y2 ?_;clear H;intro V H) | (refine IA H.out rfl 40 _ rfl [vL i is.length g] rfl rfl underlying40 rfl Y2 ?_) | (refine Kz H.out rfl 40 _ _ rfl [vL i is.length g] rfl rfl rfl rfl Y2 ?_;clear H;intro z l b d))
 exact Y6 (Q8 (P:=prog) (ty:=40) rfl _ z (w.heap.size+1) [vL i is.length g] _ rfl l underlying40 rfl Y2) rfl ⟨⟨_,_,rfl,b.imp (fun u h=>⟨a0s h.2.1,h.2.2⟩)⟩,d⟩
theorem c11 (sa la:OA) (sc lc:Nat) (sf lo:LB) (l:Int) (w:World) (h0:0<=l) (h1:l<=1048576) (j:∀ i,(sf.getD i ByteArray.empty).size<=9223372036854775807) (g:∀ i,(lo.getD i ByteArray.empty).size<=9223372036854775807) (hl:sf.length<=9223372036854775807) (s:lo.length<=9223372036854775807) (m:P7 w sa sf) (k:P7 w la lo):
 Calls prog 11 #[.agg #[.slice sa sf.length sc,.slice la lo.length lc],.int .i64 l] w fun e w'=>(∃ r:Int,e=.returned (.int .i64 r)/\(0<=r->(∀ i,(sf.getD i ByteArray.empty).size<=1048576)/\(∀ i,(lo.getD i ByteArray.empty).size<=1048576)/\sf.length+lo.length<=1048576/\r<=l))/\Bw w w':=by
 have c:=U0 (P6 (w:=w) (o:=.cells #[vL sa sf.length sc,vL la lo.length lc] 24));have hc:=U0 (fun r a b=>c15 la lc lo r _ a b g s (U5 k c.out));have hd:=c15 sa sc sf l _ h0 h1 j hl (U5 m c.out);clear j g m k;go_enter func11,ntmps11
 go_wp2_with fail
 refine hd.mono ?_;rintro e n ⟨⟨r,rfl,hr⟩,rfl⟩;have u:=U0 hr;clear hd hr;by_cases p:r<0
 · go_wp2;go_ret;exact ⟨⟨-1,rfl,fun h=>O0⟩,c.out⟩
 obtain ⟨p1,f,p3⟩:=u.out O0;have x:=U0 f;clear f;have hd:=hc.out r O0 O0
 go_wp2_with fail
 refine hd.mono ?_;rintro e n ⟨⟨q,rfl,hr⟩,rfl⟩;have v:=U0 hr;clear hd hr hc;by_cases p:q<0
 · go_wp2;go_ret;exact ⟨⟨-1,rfl,fun h=>O0⟩,c.out⟩
 obtain ⟨q1,d,q3⟩:=v.out O0;have t:=U0 d;clear d;go_wp2;go_ret;exact ⟨⟨_,rfl,fun h=>⟨x.out,t.out,O0,O0⟩⟩,c.out⟩
def Rn.le (x:Rn) (B:Nat):Prop:=x.nm.size<=B/\x.wt.size<=B/\(x.ls.length<=B/\∀ i,(x.ls.getD i E_).le B)/\x.tx.size<=B
theorem c52 (x:Rn) (a:OA) (b:Nat) (l:Int) (w:World) (h0:0<=l) (h1:l<=1048576) (C:x.le 9223372036854775807) (j:o9 w a x.ls):
 Calls prog 52 #[.agg #[.string x.nm,.int .i64 x.md,.string x.wt,.slice a x.ls.length b,.int .i64 x.cd,.string x.tx],.int .i64 l] w fun e w'=>(∃ r:Int,e=.returned (.int .i64 r)/\(0<=r->x.le 1048576/\r<=1048576))/\Bw w w':=by
 obtain ⟨s1,s2,⟨A,g⟩,z⟩:=C;have f:=U0 (P6 (w:=w) (o:=.cells #[vS x.nm,vI x.md,vS x.wt,vL a x.ls.length b,vI x.cd,vS x.tx] 88));have d:=U0 (Y4 w [vS x.nm,vI x.md,vS x.wt,vL a x.ls.length b,vI x.cd,vS x.tx] 88);have I:=U0 (l7 j f.out);have E:=U0 g;clear j g;have p:=d.out.cell 0;have a2:=d.out.cell 2;have n:=d.out.cell 3;simp only [gz] at p a2 n;by_cases h:l<x.nm.size
 · go_enter func52,ntmps52
   go_upto_region 1 with fail
   generalize w.alloc (.cells #[vS x.nm,vI x.md,vS x.wt,vL a x.ls.length b,vI x.cd,vS x.tx] 88)=V at*;go_wp2;go_ret;exact ⟨⟨-1,rfl,fun h=>O0⟩,f.out⟩
 by_cases h2:l - x.nm.size<x.wt.size
 · go_enter func52,ntmps52
   go_upto_region 1 with fail
   generalize w.alloc (.cells #[vS x.nm,vI x.md,vS x.wt,vL a x.ls.length b,vI x.cd,vS x.tx] 88)=V at*;go_wp2;go_ret;exact ⟨⟨-1,rfl,fun h=>O0⟩,f.out⟩
 go_enter func52,ntmps52
 go_upto_region 1 with fail
 generalize w.alloc (.cells #[vS x.nm,vI x.md,vS x.wt,vL a x.ls.length b,vI x.cd,vS x.tx] 88)=V at*
 go_wp2_with fail
 refine (c93 a b x.ls (l - x.nm.size - x.wt.size) V O0 O0 E.out A I.out).mono ?_;rintro e y ⟨⟨r,rfl,hr⟩,c⟩;have F:=U0 hr;have v:=U0 (X5 f.out c);have t:=U0 (d.out.below c d.out.lt);clear hr c p a2 n;by_cases D:r<0
 · go_wp2;go_ret;exact ⟨⟨-1,rfl,fun h=>O0⟩,v.out⟩
 obtain ⟨B,i,p3⟩:=F.out O0;have H:=U0 i;clear i;have m:=t.out.cell 4;have k:=t.out.cell 5;dsimp only [List.getElem?_cons_zero,List.getElem?_cons_succ] at m k
 go_wp2_with fail
 refine (c94 x.cd x.tx r y z O0 O0).mono ?_;rintro e w2 ⟨⟨q,rfl,hr⟩,c⟩;have s:=U0 hr;have u:=U0 (X5 v.out c);clear hr c m k;by_cases D:q<0
 · go_wp2;go_ret;exact ⟨⟨-1,rfl,fun h=>O0⟩,u.out⟩
 go_wp2;go_ret;exact ⟨⟨_,rfl,fun h=>⟨⟨O0,O0,⟨B,H.out⟩,(s.out h).1⟩,by have:=(s.out h).2;omega⟩⟩,u.out⟩
theorem wY (B:Nat):X_.le B:=⟨J4 _,J4 _,⟨J4 _,fun i=>⟨J4 _,J4 _⟩⟩,J4 _⟩
theorem c16 (a:OA) (I:Nat) (is:List Rn) (l:Int) (w:World) (h0:0<=l) (h1:l<=1048576) (n:∀ i,(is.getD i X_).le 9223372036854775807) (hl:is.length<=9223372036854775807) (q:Aj w a is):
 Calls prog 16 #[.slice a is.length I,.int .i64 l] w fun e w'=>(∃ r:Int,e=.returned (.int .i64 r)/\(0<=r->is.length<=1048576/\(∀ i,(is.getD i X_).le 1048576)/\r<=1048576))/\Bw w w':=by
 obtain ⟨b,off,hc⟩:=N_ q;have L:=U0 hc;have K:=U0 n;clear hc q n;by_cases hbig:l<is.length
 · go_enter func16,ntmps16;go_wp2;go_ret;exact ⟨⟨-1,rfl,fun h=>O0⟩,Z4 _ _⟩
 go_enter func16,ntmps16
 go_wp2_with fail
 go_loopw [1,5] (fun z i wr=>∃ (k:Nat) (r:Int),k<=is.length/\i=.int .i64 k/\z=.int .i64 r/\0<=r/\r<=1048576/\Hid (∀ i,i<k->(is.getD i X_).le 1048576)/\Below w.heap.size w wr) (fun _ i _=>is.length - (RowKit.intOf i).toNat)
 case atStart=>exact ⟨0,_,J4 _,rfl,rfl,O0,O0,fun i h=>absurd h (J8 _),Z4 _ _⟩
 case round=>
  obtain ⟨k,r,hk,rfl,rfl,D,C,m,g⟩:=hrel;by_cases o:k<is.length;rotate_left
  · have c:Hid (∀ i,(is.getD i X_).le 1048576):=U0 (ZP (is:=is) (d:=X_) (R:=fun x=>x.le 1048576) (wY _) (fun i h=>m.out i O0));go_wp2;go_ret;exact ⟨⟨r,rfl,fun _=>⟨O0,c.out,C⟩⟩,g⟩
  obtain ⟨ha,E,p⟩:=Cc L.out o;subst ha;obtain ⟨v,u,t,H⟩:=(p k o).below E g;have N:=U0 t;clear t;have A:=K.out k;generalize hx:is.getD k X_=x at*;have J:=U0 hx;clear hx p
  go_wp2_with (refine Y9 rfl (X8 88 _ rfl (B:=b) (j:=off+k*6) (cs:=Nz (x,vL v x.ls.length u)) rfl N.out underlying88 rfl Y2) ?_)
  refine (c52 x v u r wr D O0 A H).mono ?_;rintro e w1 ⟨⟨y,rfl,hr⟩,F⟩;have s:=X5 g F;by_cases hneg:y<0
  · clear hr;go_wp2;go_ret;exact ⟨⟨-1,rfl,fun h=>O0⟩,s⟩
  have f:=hr O0;have c:Hid (∀ i,i<k+1->(is.getD i X_).le 1048576):=by
   intro i h;rcases Q7 i k with h1 | h1
   · exact m.out i h1
   · obtain rfl:i=k:=O0;rw [J.out];exact f.1
  have hr2:=f.2;clear hr f;go_wp2;go_roundw
  case rel=>exact ⟨k+1,_,O0,by go_num,rfl,O0,O0,c,s⟩
  case measure=>simp [RowKit.intOf];omega
structure Bs where
 wd:Int
 up:Bool
 now:Int
 ep:Int
 ed:Int
 sf:LB
 lo:LB
 fs:List T.F2
 s:St
 hd:List Int
 rt:LB
 rn:List Rn
 jb:List Jb
structure Ba where
 sa:OA
 sc:Nat
 la:OA
 lc:Nat
 fa:OA
 fc:Nat
 ta:OA
 tc:Nat
 ra:OA
 rc:Nat
 ha:OA
 hc:Nat
 oa:OA
 oc:Nat
 na:OA
 nc:Nat
 ja:OA
 jc:Nat
@[go_sem] abbrev bsV (b:Bs) (q:Ba):List Value:=[.int .i64 b.wd,.bool b.up,.int .i64 b.now,.int .i64 b.ep,.int .i64 b.ed,.slice q.sa b.sf.length q.sc,.slice q.la b.lo.length q.lc,.slice q.fa b.fs.length q.fc,.int .i64 b.s.wd,.slice q.ta b.s.ts.length q.tc,.slice q.ra b.s.rs.length q.rc,.slice q.ha b.hd.length q.hc,.slice q.oa b.rt.length q.oc,.slice q.na b.rn.length q.nc,.slice q.ja b.jb.length q.jc]
structure Oh (w:World) (b:Bs) (q:Ba):Prop where
 sf:P7 w q.sa b.sf
 lo:P7 w q.la b.lo
 fs:T.G6 w q.fa b.fs
 st:Ig w q.ta q.ra b.s
 hd:Ye w q.ha b.hd
 rt:P7 w q.oa b.rt
 rn:Aj w q.na b.rn
 jb:Bl w q.ja b.jb
theorem Oh.below {w w':World} {b:Bs} {q:Ba} (h:Oh w b q) (a:Bw w w'):Oh w' b q:=⟨U5 h.sf a,U5 h.lo a,T.J5 h.fs a,h.st.below a,oh h.hd a,U5 h.rt a,Le h.rn a,Vk h.jb a⟩
def yS (b:Bs) (q:Ba):Prop:=b.rt.length<=q.oc/\b.jb.length<=q.jc/\b.lo.length<=q.lc
structure Gj (b:Bs) (B:Nat):Prop where
 sl:b.sf.length<=B
 ss:∀ i,(b.sf.getD i ByteArray.empty).size<=B
 ll:b.lo.length<=B
 ls:∀ i,(b.lo.getD i ByteArray.empty).size<=B
 fl:b.fs.length<=B
 fz:∀ i,(b.fs.getD i T.I8).le B
 st:b.s.le B
 hl:b.hd.length<=B
 rl:b.rt.length<=B
 rs:∀ i,(b.rt.getD i ByteArray.empty).size<=B
 nl:b.rn.length<=B
 ns:∀ i,(b.rn.getD i X_).le B
 jl:b.jb.length<=B
 js:∀ i,(b.jb.getD i Jc).nm.size<=B
@[go_sem] abbrev bz:List Value:=[.int .i64 0,.bool false,.int .i64 0,.int .i64 0,.int .i64 0,.slice none 0 0,.slice none 0 0,.slice none 0 0,.int .i64 0,.slice none 0 0,.slice none 0 0,.slice none 0 0,.slice none 0 0,.slice none 0 0,.slice none 0 0]
structure BsO (A B:Nat) (u:World) (b:Bs) (q:Ba):Prop where
 sf:Ow A B u q.sa 9 b.sf.length
 lo:Ow A B u q.la 9 b.lo.length
 fs:Ow A B u q.fa 133 (b.fs.length*2)
 ts:Ow A B u q.ta 9 b.s.ts.length
 rs:kU A B u q.ra 145 b.s.rs.length 3 1 205 3
 hd:Ow A B u q.ha 3 b.hd.length
 rt:Ow A B u q.oa 9 b.rt.length
 rn:kU A B u q.na 105 b.rn.length 6 3 185 4
 jb:Ow A B u q.ja 107 (b.jb.length*3)
theorem c6 (b:Bs) (q:Ba) (w:World) (hl:Gj b 1048576) (L:Oh w b q):
 Calls prog 6 #[.agg (bsV b q).toArray] w fun e w'=>(∃ n,e=.returned (.agg (bsV b n).toArray)/\Oh w' b n/\yS b n/\BsO w.heap.size w'.heap.size w' b n)/\Bw w w':=by
 have f:=U0 L;have d:=U0 hl;clear L hl;go_enter func6,ntmps6
 go_upto_region 2 with fail
 have H:=U0 (Wi (w:=w) (ta:=35) (tr:=47) (ar:=bsV b q) (zs:=bz));generalize ((w.alloc (.cells (bsV b q).toArray 35)).alloc (.cells bz.toArray 47)).alloc (.cells bz.toArray 47)=V at*
 go_wp2_with (first | (refine U9 H.out.ca rfl 24 _ rfl (j:=5) [vL q.sa b.sf.length q.sc,vL q.la b.lo.length q.lc] rfl rfl underlying24 rfl Y2 ?_) | (refine U8 H.out.ca rfl _ _ rfl rfl rfl Y2 ?_) | (refine Xd H.out rfl 3 _ _ rfl (j:=0) (vI b.wd) rfl rfl rfl (W_ rfl) Y2 ?_;clear H;intro V H) | (refine Xd H.out rfl 4 _ _ rfl (j:=1) (.bool b.up) rfl rfl rfl (W_ rfl) Y2 ?_;clear H;intro V H) | (refine Xd H.out rfl 3 _ _ rfl (j:=2) (vI b.now) rfl rfl rfl (W_ rfl) Y2 ?_;clear H;intro V H) | (refine Xd H.out rfl 3 _ _ rfl (j:=3) (vI b.ep) rfl rfl rfl (W_ rfl) Y2 ?_;clear H;intro V H) | (refine Xd H.out rfl 3 _ _ rfl (j:=4) (vI b.ed) rfl rfl rfl (W_ rfl) Y2 ?_;clear H;intro V H))
 refine (c20 q.sa q.la q.sc q.lc b.sf b.lo V d.out.sl d.out.ll (U5 f.out.sf H.out.bel) (U5 f.out.lo H.out.bel)).mono ?_;rintro e V1 ⟨⟨m,B,l,A,rfl,U,a⟩,c⟩
 replace H:=U0 (H.out.call c (a.imp fun u h=>(⟨⟨h.1.1,h.1.2.mono H.out.bel.size⟩,h.2.1,h.2.2.mono H.out.bel.size⟩:(P7 u m b.sf/\qw w.heap.size u m 9 b.sf.length)/\P7 u l b.lo/\qw w.heap.size u l 9 b.lo.length)))
 clear c a
 go_wp2_with (first | (refine U9 H.out.ca rfl 27 _ rfl (j:=7) [vL q.fa b.fs.length q.fc] rfl rfl underlying27 rfl Y2 ?_) | (refine U8 H.out.ca rfl _ _ rfl rfl rfl Y2 ?_) | (refine VG H.out rfl 37 _ _ rfl (j:=5) [vL m b.sf.length B,vL l b.lo.length A] rfl rfl (W_ rfl) rfl Y2 ?_;clear H;intro V H))
 refine (c21 q.fa q.fc b.fs V d.out.fl (T.J5 f.out.fs H.out.bel)).mono ?_;rintro e V1 ⟨⟨J,y,rfl,a⟩,c⟩
 replace H:=U0 (H.out.call c (oP a H.out.bel.size))
 clear c a
 go_wp2_with (first | (refine U9 H.out.ca rfl 30 _ rfl (j:=8) [vI b.s.wd,vL q.ta b.s.ts.length q.tc,vL q.ra b.s.rs.length q.rc] rfl rfl underlying30 rfl Y2 ?_) | (refine U8 H.out.ca rfl _ _ rfl rfl rfl Y2 ?_) | (refine VG H.out rfl 40 _ _ rfl (j:=7) [vL J b.fs.length y] rfl rfl (W_ rfl) rfl Y2 ?_;clear H;intro V H))
 refine (c22 q.ta q.ra q.tc q.rc b.s V d.out.st (f.out.st.below H.out.bel)).mono ?_;rintro e V1 ⟨⟨k,x,g,v,rfl,a⟩,c⟩
 replace H:=U0 (H.out.call c (a.imp fun u h=>(⟨h.1,h.2.1.mono H.out.bel.size,h.2.2.1.mono H.out.bel.size,h.2.2.2⟩:Ig u k (some (aA g 0)) b.s/\StO w.heap.size u k g b.s)))
 clear c a
 go_wp2_with (first | (refine U8 H.out.ca rfl _ _ rfl rfl rfl Y2 ?_) | (refine VG H.out rfl 43 _ _ rfl (j:=8) [vI b.s.wd,vL k b.s.ts.length x,vL (some (aA g 0)) b.s.rs.length v] rfl rfl (W_ rfl) rfl Y2 ?_;clear H;intro V H))
 refine (a3W q.ha q.hc b.hd V d.out.hl (oh f.out.hd H.out.bel)).mono ?_;rintro e V1 ⟨⟨_,rfl,I,t,rfl,_,a⟩,c⟩
 replace H:=U0 (H.out.call c (YQ a H.out.bel.size))
 clear c a
 go_wp2_with (first | (refine U8 H.out.ca rfl _ _ rfl rfl rfl Y2 ?_) | (refine Xd H.out rfl 31 _ _ rfl (j:=11) (vL I b.hd.length t) rfl rfl rfl (W_ rfl) Y2 ?_;clear H;intro V H))
 refine (qV q.oa q.oc b.rt V d.out.rl (U5 f.out.rt H.out.bel)).mono ?_;rintro e V1 ⟨⟨_,rfl,F,r,rfl,S,a⟩,c⟩
 replace H:=U0 (H.out.call c (YQ a H.out.bel.size))
 clear c a
 go_wp2_with (first | (refine U8 H.out.ca rfl _ _ rfl rfl rfl Y2 ?_) | (refine Xd H.out rfl 22 _ _ rfl (j:=12) (vL F b.rt.length r) rfl rfl rfl (W_ rfl) Y2 ?_;clear H;intro V H))
 refine (c25 q.na q.nc b.rn V d.out.nl (fun i=>(d.out.ns i).2.2.1.1) (Le f.out.rn H.out.bel)).mono ?_;rintro e V1 ⟨⟨_,rfl,E,p,rfl,a⟩,c⟩
 replace H:=U0 (H.out.call c (a1r a H.out.bel.size))
 clear c a
 go_wp2_with (first | (refine U8 H.out.ca rfl _ _ rfl rfl rfl Y2 ?_) | (refine Xd H.out rfl 44 _ _ rfl (j:=13) (vL (some (aA E 0)) b.rn.length p) rfl rfl rfl (W_ rfl) Y2 ?_;clear H;intro V H))
 refine (c26 q.ja q.jc b.jb V d.out.jl (Vk f.out.jb H.out.bel)).mono ?_;rintro e V1 ⟨⟨_,rfl,D,o,rfl,R,a⟩,c⟩
 replace H:=U0 (H.out.call c (oP a H.out.bel.size))
 clear c a
 go_wp2_with (first | (refine U8 H.out.ca rfl _ _ rfl rfl rfl Y2 ?_) | (refine Xd H.out rfl 45 _ _ rfl (j:=14) (vL D b.jb.length o) rfl rfl rfl (W_ rfl) Y2 ?_;clear H;intro V H) | (refine IA H.out rfl 47 _ rfl [vI b.wd,.bool b.up,vI b.now,vI b.ep,vI b.ed,vL m b.sf.length B,vL l b.lo.length A,vL J b.fs.length y,vI b.s.wd,vL k b.s.ts.length x,vL (some (aA g 0)) b.s.rs.length v,vL I b.hd.length t,vL F b.rt.length r,vL (some (aA E 0)) b.rn.length p,vL D b.jb.length o] rfl rfl underlying47 rfl Y2 ?_) | (refine Kz H.out rfl 47 _ _ rfl [vI b.wd,.bool b.up,vI b.now,vI b.ep,vI b.ed,vL m b.sf.length B,vL l b.lo.length A,vL J b.fs.length y,vI b.s.wd,vL k b.s.ts.length x,vL (some (aA g 0)) b.s.rs.length v,vL I b.hd.length t,vL F b.rt.length r,vL (some (aA E 0)) b.rn.length p,vL D b.jb.length o] rfl rfl rfl rfl Y2 ?_;clear H;intro z W a c))
 exact Y6 (Q8 (P:=prog) (ty:=47) rfl _ z (w.heap.size+1) [vI b.wd,.bool b.up,vI b.now,vI b.ep,vI b.ed,vL m b.sf.length B,vL l b.lo.length A,vL J b.fs.length y,vI b.s.wd,vL k b.s.ts.length x,vL (some (aA g 0)) b.s.rs.length v,vL I b.hd.length t,vL F b.rt.length r,vL (some (aA E 0)) b.rn.length p,vL D b.jb.length o] _ rfl W underlying47 rfl Y2) rfl ⟨⟨⟨_,_,_,_,_,_,_,_,_,_,_,_,_,_,_,_,_,_⟩,rfl,by
  obtain ⟨⟨⟨⟨⟨⟨⟨_,h1⟩,h2⟩,C⟩,Q⟩,O⟩,K⟩,N⟩:=a.now;exact ⟨⟨h1.1.1,h1.2.1,h2.1,C.1,Q.1,O.1,K.1,N.1⟩,⟨S,R,U⟩,h1.1.2.ow,h1.2.2.ow,h2.2.ow,C.2.1.ow,a0H C.2.2.1 C.2.2.2,Q.2.ow,O.2.ow,a0H K.2.1 K.2.2,N.2.ow⟩⟩,c⟩
