import Derived.Test.YtdpoaadafcaffaaGreatDoorZ50
import Derived.Test.YtdpoaadafcaffaaGreatDoorDH
import Derived.RangeFuncNested
import Derived.RangeFuncBound
import Derived.RangeFuncCalls
import Derived.RangeFuncLeaves
import Derived.TacticsInMore
import Derived.OwnWalkIn
set_option linter.unusedVariables false
set_option maxHeartbeats 8000000
set_option maxRecDepth 100000
namespace Go.Proofs.YtdpoaadafcaffaaGreatDoor
open Proofs.Tryz
open Go.RowKit
open G (Q6)
open G.T (F2 L6 Y3 U3)
theorem U_.same {f:Fx} {g:Gh} {w w':World} (h:U_ f g w) (hq:g.q=[]) (hb:Below f.base f.w0 w') (hk:∀ k o,g.ow k=some o->w'.heap[k]?=w.heap[k]?):U_ f g w' where
 bl:=hb
 rM:=h.rM
 kb:=(hk _ _ h.jM).trans h.kb
 jM:=h.jM
 mr:=Xa h.mr (hk _ _ h.YM)
 ar:=h.ar
 YM:=h.YM
 mw:=Xa h.mw (hk _ _ h.nN)
 aw:=h.aw
 nN:=h.nN
 pl:=Y0 h.pl fun k e=>hk k _ (h.BN k e)
 BN:=h.BN
 rd:=h.rd.keep fun k e _=>hk k _ (h.ord k e)
 ord:=h.ord
 its:=fun it hi=>by rw [hq] at hi;cases hi
 ru:=fun i x e=>(h.ru i x e).keep fun k hk'=>hk k _ (h.kM i x e k hk')
 kM:=h.kM
 wr:=fun i x e=>Y0 (h.wr i x e) fun k hk'=>hk k _ (h.oN i x e k hk')
 oN:=h.oN
 DN:=h.DN
 key:=h.key
 only:=h.only
 kw:=h.kw
 oO:=h.oO
 inj:=h.inj
 TM:=h.TM
theorem Md.deed {E:Env} (hE:l8 E) {g:Gh} (h:Md E g none) (hq:g.q=[]) {i:Nat} {x:Ru} (hi:g.rs[i]?=some x):Fa E x.k.m.nm ⟨x.k.m.nm,true,x.k.m,x.ls,x.r,x.wt⟩:=by
 have hpn:=(hE.made x.k.m.nm).2 ⟨x.k.m,h.mem i x hi,rfl⟩;rcases h.looks hE hq hi with ⟨hne,_⟩ | ⟨m,q1,q2,q3,q4⟩
 · exact absurd hpn hne
 obtain rfl:=hE.one _ _ q1 (h.mem i x hi) q2;refine .inr ⟨x.k.m,x.ls,q1,rfl,q3,q4,?_⟩
 cases hs:x.GL with
 | act=>have:=(h.act i x hi).1 hs;cases this
 | iM=>have:=(h.iM i x hi).1 hs;rw [hq] at this;cases this
 | fin=>
  obtain ⟨⟨p1,p2⟩,p3⟩:=h.fin i x hi hs;rw [if_pos p1,if_pos p1,p2,p3]
 | VL j=>
  obtain ⟨p1,p3⟩:=h.non i x hi (by rw [hs];simp);obtain ⟨⟨_,p2⟩,_⟩:=h.VL i x j hi hs;rw [if_neg (by rw [p1];simp),if_neg (by rw [p1];simp),p2,p3]
theorem uD {w u:World} {base:Nat} {v:Value} {ls:List M.L4} (h:w.ownsRow base 45 4 v ls.length (I4 ls)) (hb:Below w.heap.size w u):Src u v 4 ls.length (I4 ls):=by
 obtain ⟨a,c,h1,h2⟩:=Zb h;have h3:=M.I_ h2 hb
 cases a with
 | none=>
  have:ls=[]:=by
   rcases h3 with h3 | ⟨b,off,h,_⟩
   · exact h3
   cases h
  rw [h1,this];exact .inl ⟨⟨c,rfl⟩,rfl,rfl⟩
 | some ad=>exact .inr ⟨ad,c,h1,Yf _,Xj h3⟩
theorem yL (base:Nat) (v:Value) (ls:List M.L4) (w:World) (h:w.ownsRow base 45 4 v ls.length (I4 ls)) (hl:ls.length<=1000):
 Calls prog 43 #[v] w fun e w'=>∃ v',e=.returned v'/\w'.ownsRow w.heap.size 45 4 v' ls.length (I4 ls)/\Below w.heap.size w w':=by
 have H:=Q0 h;rcases h.2 with ⟨hv,h0⟩ | ⟨g,cap,cur,hv,_⟩
 · subst hv
   have hls:=List.length_eq_zero_iff.1 h0;subst hls;clear h;have hnil:∀ u,(binOp .eql 36 (.slice none 0 0) (.slice none 0 0)).run prog u=.ok (.bool true) u:=fun u=>I1;go_enter func43,ntmps43;go_wp2;go_ret;exact ⟨_,rfl,World.ownsRow_nil _ _ _ _,Below.refl _ _⟩
 subst hv;have hal:Below w.heap.size w (w.alloc (.cells #[] 45)):=bA;have ZU:=Q0 (uD h hal);have HRM:Hid ((w.alloc (.cells #[] 45)).ownsRow w.heap.size 45 4 (.slice (some ⟨w.heap.size,0,none⟩) 0 0) 0 []):=Q0 (World.ownsRow_made w #[] 0 Q8 (Nat.zero_le _) rfl);have CO:=Q0 (Ec ls);have hbs:w.heap.size<=(w.alloc (.cells #[] 45)).heap.size:=U0;have hnil:∀ u,(binOp .eql 36 (.slice (some ⟨g,0,none⟩) ls.length cap) (.slice none 0 0)).run prog u=.ok (.bool false) u:=fun u=>I1;clear h;go_enter func43,ntmps43
 go_wp2_with (refine Kc rfl _ _ 36 rfl w.heap.size 45 4 underlying36 Oh J3 (.slice (some ⟨w.heap.size,0,none⟩) 0 0) 0 [] rfl HRM.out _ ls.length (I4 ls) rfl ZU.out CO.out O0 hbs ?_;intro v' w2 O2 g2 at2;have FQ:=Q0 O2;have HG2:=Q0 g2;clear O2 g2 at2)
 go_ret;refine ⟨_,rfl,by have:=FQ.out;rw [Nat.zero_add,List.nil_append] at this;exact this,?_⟩;exact ⟨HG2.out.os.trans hal.os,HG2.out.tape.trans hal.tape,HG2.out.output.trans hal.output,Nat.le_trans hal.size HG2.out.size,fun k hk=>(HG2.out.block k X3 (fun e=>by have:k=w.heap.size:=Option.some.inj e;omega)).trans (hal.block k hk)⟩
theorem c20 (f:Fx) (E:Env) (hf:Rx f E) (g:Gh) (nm:ByteArray) (w:World) (hs:U_ f g w) (hl:Md E g none) (hq:g.q=[]) (hn:Y1 nm.data.toList=true):
 Calls prog 20 #[pt f.kb,.string nm] w fun e w'=>∃ (d:Dd) (la:Option Addr) (c:Nat),e=.returned (.tuple #[.agg (De.vs ⟨d,.slice la d.ls.length c⟩).toArray,.string d.wt])/\Fa E nm d/\w'.ownsRow w.heap.size 45 4 (.slice la d.ls.length c) d.ls.length (I4 d.ls)/\Below f.base w w'/\∃ g',U_ f g' w'/\Md E g' none/\g'.q=[]/\(∀ k,k<w.heap.size->g.ow k=none->w'.heap[k]?=w.heap[k]?/\g'.ow k=none)/\∀ k,(Value.slice la d.ls.length c).ownBlock=some k->g'.ow k=none:=by
 have yM:l8 E:=by rw [hf.hE];exact qc hf.tr hf.pt
 obtain ⟨pa,pc,hpv,_⟩:=Qk hs.pl;have zW:=Q0 hpv;have OT:Hid (∀ u {g'},U_ f g' u->G.Ab u pa f.ms):=fun u g' h=>by
  obtain ⟨a,c,h1,h2⟩:=Qk h.pl;rw [hpv] at h1;have:pa=a:=by injection h1
  rw [this];exact h2
 have JL:=Q0 hs;have lM:=Q0 hl;have jU:=Q0 hq;have HF:=Q0 hf;have HN:=Q0 hn;have wM:=Q0 yM;obtain ⟨w1,hw1⟩:∃ u:World,u=w.alloc (.cells #[.string ⟨#[]⟩,.bool false,.string ⟨#[]⟩,.string ⟨#[]⟩,.string ⟨#[]⟩,.slice none 0 0,.int .i64 0,.string ⟨#[]⟩] 38):=⟨_,rfl⟩;have HW1:=Q0 hw1;have hb1:Below w.heap.size w w1:=by rw [hw1];exact bA
 have C4:Hid (Cl w1 w.heap.size 38 [.string ⟨#[]⟩,.bool false,.string ⟨#[]⟩,.string ⟨#[]⟩,.string ⟨#[]⟩,.slice none 0 0,.int .i64 0,.string ⟨#[]⟩]):=by show Cl _ _ _ _;rw [hw1];exact F3 w _ 38
 have NL:Hid (U_ f { g with ow:=X7 g.ow w.heap.size } w1):=Q0 ((hs.X7 w.heap.size Q8).grow hb1);have HB1:Hid (Below f.base w w1):=Q0 (hb1.mono hs.sz);have HQ1:=Q0 hb1;have d1:=(NL.out.kb.cell 1).trans (congrArg some hpv);clear hs hl hq hf hn yM hpv hw1 hb1;go_enter func20,ntmps20;rw [show pt f.kb=.pointer (some ⟨f.kb,0,none⟩) from rfl]
 go_upto_region 1 with fail
 rw [<- HW1.out];clear HW1
 go_wp2_with fail
 refine (G.c40 pa pc f.ms nm w1 (Nat.le_trans (Ba HF.out.pt) J3) (OT.out w1 NL.out) (G.mg HF.out.pt)).mono ?_;rintro e w2 ⟨⟨y,mth,rfl,hy⟩,hb2⟩;have HS2:=Q0 (NL.out.grow hb2);have C42:=Q0 (C4.out.below hb2 C4.out.lt);have HB2:Hid (Below f.base w w2):=Q0 (HB1.out.trans (hb2.mono (by have:=HB1.out.size;have:=JL.out.sz;omega)));have TR:=Q0 (bT HQ1.out hb2);clear d1 hb2 C4 NL HB1
 go_upto_region 2 with fail
 obtain ⟨w3,hw3⟩:∃ u:World,u=w2.alloc (.cells #[.string y.nm,.string y.tl,.string y.ar] 35):=⟨_,rfl⟩;rw [<- hw3];have hb3:Below w2.heap.size w2 w3:=by rw [hw3];exact bA
 have C6:Hid (Cl w3 w2.heap.size 35 [.string y.nm,.string y.tl,.string y.ar]):=by show Cl _ _ _ _;rw [hw3];exact F3 w2 _ 35
 have gM:=Q0 (HS2.out.grow hb3);have LZ:=Q0 (C42.out.below hb3 C42.out.lt);have HB3:Hid (Below f.base w w3):=Q0 (HB2.out.trans (hb3.mono (by have:=HB2.out.size;have:=JL.out.sz;omega)));have HQ3:=Q0 (bT TR.out hb3);clear hw3 hb3 C42 HS2 HB2;cases mth
 · have HY:Hid (G.bg f.ms nm):=by
    rcases hy with ⟨h,_⟩ | ⟨_,h⟩
    · cases h
    exact h
   clear hy;have d0:w3.cell? ⟨f.kb,0,none⟩=some (.slice f.ta f.fs.length f.tc):=gM.out.kb.cell 0
   go_wp2_with fail
   refine (G.UJ f.ta f.tc f.fs nm w3 HF.out.tr.1 (G.T.X0 HF.out.fa (gM.out.bl.mono Q8)) (G.T.Gm HF.out.tr)).mono ?_;rintro e w4 ⟨h43,hb4⟩;obtain ⟨r,he,hpl⟩:=Rs HF.out.tr h43 HY.out;obtain ⟨rc,rt⟩:=r;have he':e=.returned (.agg #[.int .i64 rc,.string rt]):=he;subst he';have HWF:Hid (Fa E nm ⟨nm,false,X6,[],⟨rc,rt⟩,⟨#[]⟩⟩):=Q0 (.inl ⟨⟨rc,rt⟩,by rw [HF.out.hE];exact hpl,rfl⟩);have HQ4:=Q0 (bT HQ3.out hb4);have EO:=Q0 (gM.out.grow hb4);have C44:=Q0 (LZ.out.below hb4 LZ.out.lt);have mM:Hid (Below f.base w w4):=Q0 (HB3.out.trans (hb4.mono (by have:=HB3.out.size;have:=JL.out.sz;omega)));clear h43 he hpl d0 hb4
   go_wp2_with (refine Ye rfl 38 _ _ rfl (B:=w.heap.size) (j:=0) rfl (vs:=[.string nm,.bool false,.string ⟨#[]⟩,.string ⟨#[]⟩,.string ⟨#[]⟩,.slice none 0 0,.int .i64 rc,.string rt]) rfl C44.out U0 (by intro v hv;simp at hv;rcases hv with rfl | rfl | rfl | rfl | rfl | rfl <;> rfl) I1 ?_;intro w5 rR QN;have nP:=Q0 rR;have QM:=Q0 QN;clear rR QN)
   refine bodyPost_ret (Ca (P:=prog) (ty:=38) rfl _ _ w.heap.size _ _ rfl nP.out.blk underlying38 rfl I1) rfl ?_;have hkk:∀ k,k<w.heap.size->w5.heap[k]?=w.heap[k]?:=fun k hk=>(QM.out.block k O0).trans (HQ4.out.block k hk);exact ⟨⟨nm,false,X6,[],⟨rc,rt⟩,⟨#[]⟩⟩,none,0,rfl,HWF.out,World.ownsRow_nil _ _ _ _,mM.out.trans (QM.out.below JL.out.sz),_,EO.out.same jU.out (EO.out.bl.trans (QM.out.below JL.out.sz)) (fun k o e=>QM.out.block k (fun c=>by have e:X7 g.ow w.heap.size k=some o:=e;rw [c,L8 Q8] at e;cases e)),⟨lM.out.mem,lM.out.inj,lM.out.his,lM.out.fin,lM.out.non,lM.out.act,lM.out.iM,lM.out.qN,lM.out.EN,lM.out.FN,lM.out.VL,lM.out.iN⟩,jU.out,fun k hk e=>⟨hkk k hk,by show X7 g.ow w.heap.size k=none;rw [I5 hk];exact e⟩,fun k e=>by cases e⟩
 obtain ⟨iy,NZ,OZ,hny⟩:∃ i,i<f.ms.length/\f.ms.getD i X6=y/\y.nm=nm:=by
  rcases hy with ⟨_,h⟩ | ⟨h,_⟩
  · exact h
  cases h
 clear hy;have SY:toM y∈E.ms:=by rw [HF.out.hE];exact Hd.2 ⟨iy,NZ,by rw [OZ]⟩
 have HME:=Q0 SY;have aV:=Q0 hny;have hms:E.ms.length<=30:=by rw [HF.out.hE];show (f.ms.map toM).length<=30;rw [List.length_map];exact Ba HF.out.pt
 have hrl:=lM.out.len hms;have HC:=Q0 (XJ f E HF.out { g with ow:=X7 g.ow w.heap.size } (toM y) w3 gM.out (by show y.nm.size<=20;rw [aV.out];exact z_ HN.out) (by show g.rs.length<=1000;omega) (by show g.q.length<=1000;rw [jU.out];simp));have e0:w3.cell? ⟨w2.heap.size,0,none⟩=some (.string y.nm):=C6.out.cell 0;have e1:w3.cell? ⟨w2.heap.size,1,none⟩=some (.string y.tl):=C6.out.cell 1;have e2:w3.cell? ⟨w2.heap.size,2,none⟩=some (.string y.ar):=C6.out.cell 2;clear NZ OZ hny SY hrl
 go_wp2_with fail
 refine HC.out.mono ?_;rintro e w4 ⟨g',i,x,rfl,hs4,UR,hgi,hb4,CW⟩;rw [show pt x.k.B=.pointer (some ⟨x.k.B,0,none⟩) from rfl];have hL0':Md E { g with ow:=X7 g.ow w.heap.size } none:=⟨lM.out.mem,lM.out.inj,lM.out.his,lM.out.fin,lM.out.non,lM.out.act,lM.out.iM,lM.out.qN,lM.out.EN,lM.out.FN,lM.out.VL,lM.out.iN⟩;obtain ⟨hL4,hxm,hext,lU⟩:=hL0'.kK wM.out JL.out.TM HME.out UR hgi (fun i' e=>by cases e) hms;have HL4:=Q0 hL4;have EO:=Q0 hs4;have HXM:=Q0 hxm;have HGI:=Q0 hgi;have mM:=Q0 (HB3.out.trans hb4);have hk4:=CW w.heap.size LZ.out.lt (L8 Q8);have C44:Hid (Cl w4 w.heap.size 38 [.string ⟨#[]⟩,.bool false,.string ⟨#[]⟩,.string ⟨#[]⟩,.string ⟨#[]⟩,.slice none 0 0,.int .i64 0,.string ⟨#[]⟩]):=Q0 (hk4.1.trans LZ.out);have HOW:Hid (g'.ow w.heap.size=none):=Q0 hk4.2;have zP:Hid (∀ k,k<w.heap.size->g.ow k=none->w4.heap[k]?=w.heap[k]?/\g'.ow k=none):=fun k hk e=>by
  have h:=CW k (by have:=HQ3.out.size;omega) (by show X7 g.ow w.heap.size k=none;rw [I5 hk];exact e);exact ⟨h.1.trans (HQ3.out.block k hk),h.2⟩
 clear hL0' hL4 hs4 UR hgi hb4 CW hk4 hxm hext lU HC e0 e1 e2 hms LZ gM HB3 C6
 go_wp2_with fail
 go_loopg [] (Zd g') (fun k wr=>∃ g2:Gh,Hid (U_ f g2 wr)/\Hid (Md E g2 none)/\Hid (∃ y2,g2.rs[i]?=some y2/\y2.k=x.k)/\Hid (Cl wr w.heap.size 38 [.string ⟨#[]⟩,.bool false,.string ⟨#[]⟩,.string ⟨#[]⟩,.string ⟨#[]⟩,.slice none 0 0,.int .i64 0,.string ⟨#[]⟩])/\Hid (g2.ow w.heap.size=none)/\Hid (∀ k,k<w.heap.size->g.ow k=none->wr.heap[k]?=w.heap[k]?/\g2.ow k=none)/\Hid (Below f.base w wr)/\k=Zd g2)
 case atStart=>exact ⟨g',EO.out,HL4.out,⟨x,HGI.out,rfl⟩,C44.out,HOW.out,zP.out,mM.out,rfl⟩
 clear zP;obtain ⟨g2,HS,HL,HXI,mU,VR,zP,SL,rfl⟩:=hrel
 cases hq2:g2.q with
 | nil=>
  have hrd:=HS.out.rd;rw [hq2] at hrd;obtain ⟨ra,rc,vR⟩:=hrd.form;have d4:wr.cell? ⟨f.kb,4,none⟩=some (.slice ra 0 rc):=(HS.out.kb.cell 4).trans (congrArg some vR);obtain ⟨y2,hy2,hyk⟩:=HXI.out;have TR:=Q0 hq2;have hyn:y2.k.m.nm=nm:=by rw [hyk,HXM.out];exact aV.out
  have a1C:Hid (Fa E nm ⟨nm,true,y2.k.m,y2.ls,y2.r,y2.wt⟩):=by
   have:=HL.out.deed wM.out hq2 hy2;rw [hyn] at this;exact this
  have HYN:=Q0 hyn;clear hyn;have eO:=HS.out.ru i y2 hy2;have hls:=(M_ wM.out (wM.out.ms _ (HL.out.mem _ y2 hy2)) (HL.out.his _ y2 hy2)).1;rw [<- hyk];have xQ:=Q0 eO.hB;have yN:=Q0 eO.lk;obtain ⟨la,lc,hlv,_⟩:=Zb eO.lk;have RN:=Q0 hlv;clear hlv;have a1D:y2.k.B≠w.heap.size:=by
   have h1:=HS.out.kM i y2 hy2 y2.k.B (.inl U0);intro e;rw [e,VR.out] at h1;cases h1
  clear eO hrd vR hq2 hyk
  go_upto_region 9 with fail
  go_upto_region 10 with (refine Ve rfl (Vd 38 _ rfl (B:=y2.k.B) (j:=0) (cs:=[.string y2.k.m.nm,.bool true,.string y2.k.m.nm,.string y2.k.m.tl,.string y2.k.m.ar,.slice la y2.ls.length lc,.int .i64 y2.r.code,.string y2.r.tx]) rfl (fun q v e=>by
   have hq:q<8:=(List.getElem?_eq_some_iff.1 e).1;rw [Nat.zero_add,xQ.out.cell q];have e2:y2.cells=[.string y2.k.m.nm,.bool true,.string y2.k.m.nm,.string y2.k.m.tl,.string y2.k.m.ar,.slice la y2.ls.length lc,.int .i64 y2.r.code,.string y2.r.tx]++[.string y2.wt]:=by unfold Ru.cells;rw [RN.out];rfl
   rw [e2,List.getElem?_append_left hq];exact e) underlying38 rfl I1) ?_)
  obtain ⟨w5,pO⟩:∃ u:World,u=wr.alloc (.cells #[.string y2.k.m.nm,.bool true,.string y2.k.m.nm,.string y2.k.m.tl,.string y2.k.m.ar,.slice la y2.ls.length lc,.int .i64 y2.r.code,.string y2.r.tx] 38):=⟨_,rfl⟩;rw [<- pO];have hb5:Below wr.heap.size wr w5:=by rw [pO];exact bA
  have dO:Hid (Cl w5 wr.heap.size 38 [.string y2.k.m.nm,.bool true,.string y2.k.m.nm,.string y2.k.m.tl,.string y2.k.m.ar,.slice la y2.ls.length lc,.int .i64 y2.r.code,.string y2.r.tx]):=by show Cl _ _ _ _;rw [pO];exact F3 wr _ 38
  have DW:=Q0 (ownsRow_below yN.out hb5);have EW:=Q0 (xQ.out.below hb5 xQ.out.lt);have C45:=Q0 (mU.out.below hb5 mU.out.lt);have GQ:=Q0 (SL.out.trans (hb5.mono (by have:=SL.out.size;have:=JL.out.sz;omega)));have d5:w5.cell? ⟨wr.heap.size,5,none⟩=some (.slice la y2.ls.length lc):=dO.out.cell 5;have qO:w.heap.size<wr.heap.size:=mU.out.lt;have hzB:y2.k.B<wr.heap.size:=xQ.out.lt;rw [RN.out] at DW;have QZ:=Q0 hb5;clear pO hb5 xQ yN d4
  go_wp2_with fail
  refine (yL f.base _ y2.ls w5 DW.out O0).mono ?_;rintro e w6 ⟨v',rfl,nU,hb6⟩;obtain ⟨ca,cc,hv',_⟩:=Zb nU;subst hv';have ZM:=Q0 nU;have IQ:w5.heap.size<=w6.heap.size:=hb6.size;have a3q:wr.heap.size<w5.heap.size:=dO.out.lt;have oU:=Q0 (dO.out.below hb6 dO.out.lt);have QL:=Q0 (EW.out.below hb6 EW.out.lt);have C46:=Q0 (C45.out.below hb6 C45.out.lt);have RZ:=Q0 (GQ.out.trans (hb6.mono (by have:=GQ.out.size;have:=JL.out.sz;omega)));have q5:w6.cell? ⟨wr.heap.size,5,none⟩=some (.slice la y2.ls.length lc):=oU.out.cell 5;have f5:=oU.out.opn 5;have HK6:=Q0 hb6;clear d5 nU hb6 dO EW C45 GQ DW
  go_upto_region 11 with fail
  have hon:=F8 w6 wr.heap.size 5 (.slice ca y2.ls.length cc);have dO:Hid (Cl (w6.setCell ⟨wr.heap.size,5,none⟩ (.slice ca y2.ls.length cc)) wr.heap.size 38 [.string y2.k.m.nm,.bool true,.string y2.k.m.nm,.string y2.k.m.tl,.string y2.k.m.ar,.slice ca y2.ls.length cc,.int .i64 y2.r.code,.string y2.r.tx]):=Q0 (oU.out.set 5 (.slice ca y2.ls.length cc));generalize (w6.setCell ⟨wr.heap.size,5,none⟩ (.slice ca y2.ls.length cc))=w7 at*;have HK7:=Q0 hon;have TY:=Q0 (Y0 ZM.out fun k e=>hon.block k (by have:=(ZM.out.lt k e).1;omega));have QL:=Q0 (QL.out.on hon O0);have C47:=Q0 (C46.out.on hon O0);have UZ:=Q0 (RZ.out.trans (hon.below (by have:=SL.out.size;have:=JL.out.sz;omega)));clear q5 f5 hon oU C46 RZ;refine wp_region_held_drew (S:=fun u=>Cl u wr.heap.size 38 [.string y2.k.m.nm,.bool true,.string y2.k.m.nm,.string y2.k.m.tl,.string y2.k.m.ar,.slice ca y2.ls.length cc,.int .i64 y2.r.code,.string y2.r.tx]/\Cl u y2.k.B 96 y2.cells) I1 ?_ fun hH=>?_
  · exact ⟨dO.out,QL.out⟩
  obtain ⟨y0,hy0⟩:∃ x:World,x=w7.drew:=⟨_,rfl⟩;rw [<- hy0] at hH ⊢;have hby:Below w7.heap.size w7 y0:=by rw [hy0];exact (Below.refl _ w7).drew
  have HKy:=Q0 hby
  have HRy:=Q0 (ownsRow_below TY.out hby);have C4y:=Q0 (C47.out.below hby C47.out.lt);have a1E:=Q0 (dO.out.below hby dO.out.lt);have HBy:=Q0 (QL.out.below hby QL.out.lt);have a1F:=Q0 (UZ.out.trans (hby.mono (by have:=UZ.out.size;have:=JL.out.sz;omega)));clear hy0 hby
  refine tk (i:=0) (oi:=⟨some 63,.load 38 (.tmp 10),38,_,_,none⟩) (v:=.agg #[.string y2.k.m.nm,.bool true,.string y2.k.m.nm,.string y2.k.m.tl,.string y2.k.m.ar,.slice ca y2.ls.length cc,.int .i64 y2.r.code,.string y2.r.tx]) rfl I1 rfl ?e hH ?_
  case e=>intro wq hSw;exact Vd 38 _ rfl (B:=wr.heap.size) (j:=0) (cs:=[.string y2.k.m.nm,.bool true,.string y2.k.m.nm,.string y2.k.m.tl,.string y2.k.m.ar,.slice ca y2.ls.length cc,.int .i64 y2.r.code,.string y2.r.tx]) rfl (fun q v e=>by rw [Nat.zero_add];exact (hSw.1.cell q).trans e) underlying38 rfl I1
  refine tq 1 hH ?_;refine tq 2 hH ?_;refine tq 3 hH ?_;refine tq 4 hH ?_ (v:=?_) (hv:=?e)
  case e=>intro wq hSw;(try dsimp only at hSw);have d8:wq.cell? ⟨y2.k.B,8,none⟩=some (.string y2.wt):=hSw.2.cell 8;go_simp;try with_reducible rfl
  try simp only [qq]
  refine rq 5 fun K hK=>?_;refine Xe rfl 38 _ _ rfl (B:=w.heap.size) (j:=0) rfl (vs:=[.string y2.k.m.nm,.bool true,.string y2.k.m.nm,.string y2.k.m.tl,.string y2.k.m.ar,.slice ca y2.ls.length cc,.int .i64 y2.r.code,.string y2.r.tx]) rfl C4y.out U0 (by intro v hv;simp at hv;rcases hv with rfl | rfl | rfl | rfl | rfl | rfl | rfl | rfl <;> rfl) I1 ?_;intro w8 hc8 JQ;have HK8:=Q0 JQ;have HR8:=Q0 (Y0 HRy.out fun k e=>JQ.block k (by have:=(HRy.out.lt k e).1;omega));have a1G:=Q0 (a1E.out.on JQ O0);have VZ:=Q0 (HBy.out.on JQ a1D);have WZ:=Q0 hc8;have XZ:=Q0 (a1F.out.trans (JQ.below JL.out.sz));clear hc8 JQ hH;refine hK.out _ _ ?_ fun hH=>?_
  · exact ⟨a1G.out,VZ.out⟩
  clear hK K;refine tq 6 hH ?_
  try simp only [qq]
  refine wpAnyH_done I1 ?_ _;clear hH;go_wp2;refine bodyPost_ret (Ca (P:=prog) (ty:=38) rfl _ _ w.heap.size _ _ rfl WZ.out.blk underlying38 rfl I1) rfl ?_;have hkk:∀ k,k<wr.heap.size->k≠w.heap.size->w8.heap[k]?=wr.heap[k]?:=fun k hk hne=>by
   have h7:w7.heap.size=w6.heap.size:=HK7.out.size;exact (HK8.out.block k hne).trans ((HKy.out.block k O0).trans ((HK7.out.block k O0).trans ((HK6.out.block k O0).trans (QZ.out.block k hk))))
  exact ⟨⟨nm,true,y2.k.m,y2.ls,y2.r,y2.wt⟩,ca,cc,by rw [<- HYN.out];rfl,a1C.out,V4 HR8.out O0,XZ.out,{ g2 with ow:=X7 g2.ow wr.heap.size },(HS.out.X7 wr.heap.size Q8).same TR.out (JL.out.bl.trans XZ.out) (fun k o e=>by
   have hk:k<wr.heap.size:=Classical.byContradiction fun c=>by
    have e:X7 g2.ow wr.heap.size k=some o:=e;rw [L8 O0] at e;cases e
   have e:X7 g2.ow wr.heap.size k=some o:=e;rw [I5 hk] at e;exact hkk k hk (fun c=>by rw [c,VR.out] at e;cases e)),⟨HL.out.mem,HL.out.inj,HL.out.his,HL.out.fin,HL.out.non,HL.out.act,HL.out.iM,HL.out.qN,HL.out.EN,HL.out.FN,HL.out.VL,HL.out.iN⟩,TR.out,fun k hk e=>⟨(hkk k O0 O0).trans (zP.out k hk e).1,by show X7 g2.ow wr.heap.size k=none;rw [I5 O0];exact (zP.out k hk e).2⟩,fun k e=>L8 (by have:=(HR8.out.lt k e).1;omega)⟩
 | cons it q'=>
  have hrd:=HS.out.rd;rw [hq2,List.map_cons] at hrd;obtain ⟨ga,off,cap,vR,hcell,hcap,hrow⟩:=hrd.head;rw [List.length_map] at vR hrow;have hit:=HS.out.TM it (by rw [hq2];exact List.mem_cons_self ..);obtain ⟨xi,hxi⟩:∃ xi,g2.rs[it.i]?=some xi:=⟨_,List.getElem?_eq_getElem hit⟩;obtain ⟨hLp,hov,hgo,hre⟩:=HL.out.pop hq2 hxi;obtain ⟨na,HNA⟩:∃ na,Hid ((if cap=1 then some (⟨ga,off,none⟩:Addr) else some ⟨ga,off+1,none⟩)=na):=⟨_,rfl⟩;rw [HNA.out] at hrow;have hsl:∀ u,(Instr.slice 88 (.slice (some ⟨ga,off,none⟩) (q'.length+1) cap) (some (.int .i64 1)) none none).run prog u=.ok (.slice na q'.length (cap - 1)) u:=fun u=>by
   rw [run_slice_l u 88 (some ⟨ga,off,none⟩) (q'.length+1) cap I1 .i64 1 J3 O0,show prog.elem 88=1 from by kernel_rfl,Tryz.sizeOf1];rw [<- HNA.out];by_cases hc1:cap=1
   · simp [sliced,hc1]
   simp [sliced,hc1,Addr.add_lit]
  have hna:∀ k,(Value.slice na q'.length (cap - 1)).ownBlock=some k->k=ga:=fun k e=>by
   rw [<- HNA.out] at e;split at e <;> exact (Option.some.inj e).symm
  have hga:=HS.out.ord ga (by rw [vR];rfl);have hgl:ga≠f.kb:=fun e=>by rw [e,HS.out.jM] at hga;cases hga
  have d4:=(HS.out.kb.cell 4).trans (congrArg some vR);have f4:=HS.out.kb.opn 4;have hkx:g2.ks.getD it.i Og=xi.k:=by
   show (g2.rs.map (·.k)).getD it.i Og=xi.k;rw [List.getD_eq_getElem?_getD,List.getElem?_map,hxi];rfl
  have hits:=HS.out.its;have UN:=Q0 hrow;have dV:=Q0 hna;have rO:=Q0 hxi;have HLP:=Q0 hLp;have TR:=Q0 hq2;have YZ:=Q0 hga;have hpp:=Lf (x':={ xi with GL:=.act,st:=true }) hxi;have a3r:=(M_ wM.out (wM.out.ms _ (HL.out.mem _ xi hxi)) (HL.out.his _ xi hxi)).1;have PT:Hid (Zd { g2 with rv:=.slice na q'.length (cap - 1),rs:=g2.rs.set it.i { xi with GL:=.act,st:=true },q:=q' }<=Zd g2/\(xi.st=false->Zd { g2 with rv:=.slice na q'.length (cap - 1),rs:=g2.rs.set it.i { xi with GL:=.act,st:=true },q:=q' }<Zd g2)):=by
   have h1:wh { xi with GL:=.act,st:=true }<=wh xi:=by unfold wh;simp;split <;> omega
   refine ⟨?_,fun hst=>?_⟩
   · unfold Zd
     simp only [List.length_set];omega
   have h2:wh { xi with GL:=.act,st:=true }+1=wh xi:=by unfold wh;simp [hst];omega
   unfold Zd;simp only [List.length_set];omega
  have KQ:Hid (∀ w5,Hm f.kb wr w5->Cl w5 f.kb 90 (b_ f (.slice na q'.length (cap - 1)))->U_ f { g2 with rv:=.slice na q'.length (cap - 1),rs:=g2.rs.set it.i { xi with GL:=.act,st:=true },q:=q' } w5):=fun w5 hon hkb=>by
   have h5:=HS.out.vJ (rv':=.slice na q'.length (cap - 1)) (q':=q') (hon.ex (.inl HS.out.jM)) hkb (by
    refine UN.out.keep fun k e hl=>hon.block k fun e2=>?_;have:=dV.out k e;exact hgl (this.symm.trans e2)) (fun k e=>by rw [dV.out k e];exact YZ.out) (fun jt hj=>by
    obtain ⟨k1,k2⟩:=hits jt (by rw [TR.out];exact List.mem_cons_of_mem _ hj);refine ⟨?_,k2⟩
    cases jt with
    | go i=>trivial
    | re i r b7 b5=>exact ⟨k1.1.on hon (fun e=>by have:=k2.1;rw [e,HS.out.jM] at this;cases this),k1.2.on hon (fun e=>by have:=k2.2;rw [e,HS.out.jM] at this;cases this)⟩) (fun jt hj=>HS.out.TM jt (by rw [TR.out];exact List.mem_cons_of_mem _ hj))
   have eO:=h5.ru it.i xi rO.out;exact h5.run (x':={ xi with GL:=.act,st:=true }) rO.out (Ex.refl _ _) (eO.gh rfl rfl rfl rfl rfl rfl rfl) (fun k hk=>h5.kM it.i xi rO.out k (zq.of (x:=xi) rfl rfl rfl rfl hk)) rfl rfl rfl
  have HKS:=Q0 (fun (w5:World) (hon:Hm f.kb wr w5)=>hon);have HIT:=Q0 (hits it (by rw [TR.out];exact List.mem_cons_self ..));have hne0:¬ ((q'.length:Int)+1=0):=O0;clear hrow hna vR hLp hq2 hga hpp hits hrd
  cases it with
  | go j=>
   have hst:=hgo j rfl;have a1H:=Q0 (PT.out.2 hst);have hcell':wr.cell? ⟨ga,off,none⟩=some (.func (.func 81) #[] #[.pointer (some ⟨xi.k.c2,0,none⟩),.pointer (some ⟨xi.k.c5,0,none⟩),.pointer (some ⟨xi.k.ML,0,none⟩),.pointer (some ⟨xi.k.fM,0,none⟩)]):=by
    have h1:It.v g2.ks (.go j)=(g2.ks.getD j Og).be:=rfl;have h2:g2.ks.getD j Og=xi.k:=hkx;rw [hcell,h1,h2];rfl
   clear hcell hgo hre hkx hst
   go_upto_region 8 with fail
   have hon:=F8 wr f.kb 4 (.slice na q'.length (cap - 1));have WR:Cl (wr.setCell ⟨f.kb,4,none⟩ (.slice na q'.length (cap - 1))) f.kb 90 (b_ f (.slice na q'.length (cap - 1))):=HS.out.kb.set 4 (.slice na q'.length (cap - 1));generalize (wr.setCell ⟨f.kb,4,none⟩ (.slice na q'.length (cap - 1)))=w5 at*;have HSG:=Q0 (KQ.out w5 hon WR);have HLG:Hid (Md E { g2 with rv:=.slice na q'.length (cap - 1),rs:=g2.rs.set j { xi with GL:=.act,st:=true },q:=q' } (some j)):=by
    have h:=HLP.out;exact ⟨h.mem,h.inj,h.his,h.fin,h.non,h.act,h.iM,h.qN,h.EN,h.FN,h.VL,h.iN⟩
   have hnk:w.heap.size≠f.kb:=by have:=JL.out.kb.lt;omega
   have XR:=Q0 (mU.out.on hon hnk);have FW:=Q0 hon;have HZK:Hid (w5.heap.size=wr.heap.size):=Q0 hon.size;have dM:=Q0 (SL.out.trans (hon.below (by exact HS.out.rM _ _ HS.out.jM)));have fV:=Q0 (gL f E HF.out _ j { xi with GL:=.act,st:=true } w5 HSG.out HLG.out (Df rO.out));clear hon WR d4 f4 hcell'
   go_wp2_with fail
   refine fV.out.mono ?_;rintro e w6 ⟨rfl,g7,ha⟩;have HLT:Hid (Zd g7<Zd g2):=by have h1:=ha.Zd;have h2:=a1H.out;show _<_;omega
   have HS7:=Q0 ha.RP;have HL7:=Q0 ha.pU;have IW:Hid (∃ y2,g7.rs[i]?=some y2/\y2.k=x.k):=by
    obtain ⟨y2,h1,h2⟩:=HXI.out;obtain ⟨y3,h3,h4⟩:∃ y3,(g2.rs.set j { xi with GL:=.act,st:=true })[i]?=some y3/\y3.k=y2.k:=by
     obtain ⟨z,hz,⟨rfl,rfl⟩ | ⟨rfl,_⟩⟩:=P_ (x':={ xi with GL:=.act,st:=true }) rO.out h1
     · have:=rO.out
       rw [show g2.rs[(_:It).i]?=_ from h1] at this;obtain rfl:=Option.some.inj this;exact ⟨_,hz,rfl⟩
     exact ⟨z,hz,rfl⟩
    obtain ⟨y4,h5,h6⟩:=ha.ext i y3 h3;exact ⟨y4,h5,h6.trans (h4.trans h2)⟩
   have JW:=ha.kp w.heap.size XR.out.lt VR.out;have KW:Hid (∀ k,k<w.heap.size->g.ow k=none->w6.heap[k]?=w.heap[k]?/\g7.ow k=none):=fun k hk e=>by
    obtain ⟨q1,q2⟩:=zP.out k hk e;have h:=ha.kp k (by rw [HZK.out];have:=mU.out.lt;omega) q2;exact ⟨h.1.trans ((FW.out.block k (fun c=>by rw [c,HS.out.jM] at q2;cases q2)).trans q1),h.2⟩
   have LW:=Q0 (JW.1.trans XR.out);have MW:=Q0 JW.2;have ZZ:=Q0 (dM.out.trans ha.bl);clear ha JW fV;go_wp2
   go_roundg (Zd g7)
   case measure=>exact HLT.out
   case rel=>exact ⟨g7,HS7.out,HL7.out,IW.out,LW.out,MW.out,KW.out,ZZ.out,rfl⟩
  | re j r b7 b5=>
   have NW:Hid (Ro E (tn xi.k.m xi.ls) r):=Q0 (hre j r b7 b5 rfl);have hcell':wr.cell? ⟨ga,off,none⟩=some (.func (.func 117) #[] #[.pointer (some ⟨b7,0,none⟩),.pointer (some ⟨b5,0,none⟩)]):=hcell;clear hcell hgo hre
   go_upto_region 8 with fail
   have hon:=F8 wr f.kb 4 (.slice na q'.length (cap - 1));have WR:Cl (wr.setCell ⟨f.kb,4,none⟩ (.slice na q'.length (cap - 1))) f.kb 90 (b_ f (.slice na q'.length (cap - 1))):=HS.out.kb.set 4 (.slice na q'.length (cap - 1));generalize (wr.setCell ⟨f.kb,4,none⟩ (.slice na q'.length (cap - 1)))=w5 at*;have HSG:=Q0 (KQ.out w5 hon WR);have HLG:Hid (Md E { g2 with rv:=.slice na q'.length (cap - 1),rs:=g2.rs.set j { xi with GL:=.act,st:=true },q:=q' } (some j)):=by
    have h:=HLP.out;exact ⟨h.mem,h.inj,h.his,h.fin,h.non,h.act,h.iM,h.qN,h.EN,h.FN,h.VL,h.iN⟩
   have hnk:w.heap.size≠f.kb:=by have:=JL.out.kb.lt;omega
   have XR:=Q0 (mU.out.on hon hnk);have FW:=Q0 hon;have HZK:Hid (w5.heap.size=wr.heap.size):=Q0 hon.size;have dM:=Q0 (SL.out.trans (hon.below (by exact HS.out.rM _ _ HS.out.jM)));have h75:=HIT.out;have fV:=Q0 (c117 f E HF.out _ j { xi with GL:=.act,st:=true } r b7 b5 w5 HSG.out HLG.out (Df rO.out) NW.out (by
    have:=h75.1.1.on hon (fun e=>by have:=h75.2.1;rw [e,HS.out.jM] at this;cases this);rw [show g2.ks.getD j Og=xi.k from hkx] at this;exact this) (h75.1.2.on hon (fun e=>by have:=h75.2.2;rw [e,HS.out.jM] at this;cases this)))
   clear h75 hkx;clear hon WR d4 f4 hcell'
   go_wp2_with fail
   refine fV.out.mono ?_;rintro e w6 ⟨rfl,g7,ha,a1I⟩;have HLT:Hid (Zd g7<Zd g2):=by have h2:=PT.out.1;show _<_;exact Nat.lt_of_lt_of_le a1I h2
   have HS7:=Q0 ha.RP;have HL7:=Q0 ha.pU;have IW:Hid (∃ y2,g7.rs[i]?=some y2/\y2.k=x.k):=by
    obtain ⟨y2,h1,h2⟩:=HXI.out;obtain ⟨y3,h3,h4⟩:∃ y3,(g2.rs.set j { xi with GL:=.act,st:=true })[i]?=some y3/\y3.k=y2.k:=by
     obtain ⟨z,hz,⟨rfl,rfl⟩ | ⟨rfl,_⟩⟩:=P_ (x':={ xi with GL:=.act,st:=true }) rO.out h1
     · have:=rO.out
       rw [show g2.rs[(_:It).i]?=_ from h1] at this;obtain rfl:=Option.some.inj this;exact ⟨_,hz,rfl⟩
     exact ⟨z,hz,rfl⟩
    obtain ⟨y4,h5,h6⟩:=ha.ext i y3 h3;exact ⟨y4,h5,h6.trans (h4.trans h2)⟩
   have JW:=ha.kp w.heap.size XR.out.lt VR.out;have KW:Hid (∀ k,k<w.heap.size->g.ow k=none->w6.heap[k]?=w.heap[k]?/\g7.ow k=none):=fun k hk e=>by
    obtain ⟨q1,q2⟩:=zP.out k hk e;have h:=ha.kp k (by rw [HZK.out];have:=mU.out.lt;omega) q2;exact ⟨h.1.trans ((FW.out.block k (fun c=>by rw [c,HS.out.jM] at q2;cases q2)).trans q1),h.2⟩
   have LW:=Q0 (JW.1.trans XR.out);have MW:=Q0 JW.2;have ZZ:=Q0 (dM.out.trans ha.bl);clear ha JW fV;go_wp2
   go_roundg (Zd g7)
   case measure=>exact HLT.out
   case rel=>exact ⟨g7,HS7.out,HL7.out,IW.out,LW.out,MW.out,KW.out,ZZ.out,rfl⟩
variable {f:Fx} {E:Env} {b2:Nat} {pre:List De} {N:List ByteArray} {v:Value} {W W':World}
structure zG (f:Fx) (E:Env) (J:List De->Gh->World->Prop):Prop where
 st:∀ pre g W,J pre g W->U_ f g W/\Md E g none/\g.q=[]
 mv:∀ pre g W g' W',J pre g W->U_ f g' W'->Md E g' none->g'.q=[]->W.heap.size<=W'.heap.size->Below f.base W W'->(∀ k,k<W.heap.size->g.ow k=none->(∀ cur fz,W.heap[k]?≠some (.cells cur 9 fz))->W'.heap[k]?=W.heap[k]?)->(∀ k,k<W.heap.size->g.ow k=none->g'.ow k=none)->J pre g' W'
structure Rt (f:Fx) (J:List De->Gh->World->Prop) (b2:Nat) (pre:List De) (N:List ByteArray) (v:Value) (g:Gh) (W:World):Prop where
 j:J pre g W
 c2:Cl W b2 77 [.func (.func 20) #[.pointer (some ⟨f.kb,0,none⟩)] #[]]
 o2:g.ow b2=none
 rn:W.ownsRow f.base 9 1 v N.length (Oc N)
 on:∀ k,v.ownBlock=some k->g.ow k=none
theorem Rt.mv {J:List De->Gh->World->Prop} (hJ:zG f E J) {g g':Gh} (h:Rt f J b2 pre N v g W) (hs:U_ f g' W') (hl:Md E g' none) (hq:g'.q=[]) (hz:W.heap.size<=W'.heap.size) (hb:Below f.base W W') (hk:∀ k,k<W.heap.size->g.ow k=none->W'.heap[k]?=W.heap[k]?/\g'.ow k=none):Rt f J b2 pre N v g' W':=
 ⟨hJ.mv _ _ _ _ _ h.j hs hl hq hz hb (fun k h e _=>(hk k h e).1) (fun k h e=>(hk k h e).2),(hk _ h.c2.lt h.o2).1.trans h.c2,(hk _ h.c2.lt h.o2).2,Y0 h.rn fun k e=>(hk k (h.rn.lt k e).2 (h.on k e)).1,fun k e=>(hk k (h.rn.lt k e).2 (h.on k e)).2⟩
theorem Rt.grow {J:List De->Gh->World->Prop} (hJ:zG f E J) {g:Gh} (h:Rt f J b2 pre N v g W) (hb:Below W.heap.size W W'):Rt f J b2 pre N v { g with ow:=X7 g.ow W.heap.size } W':=by
 obtain ⟨hs,hl,hq⟩:=hJ.st _ _ _ h.j;exact h.mv hJ ((hs.X7 _ Q8).grow hb) ⟨hl.mem,hl.inj,hl.his,hl.fin,hl.non,hl.act,hl.iM,hl.qN,hl.EN,hl.FN,hl.VL,hl.iN⟩ hq hb.size (hb.mono hs.sz) (fun k hk e=>⟨hb.block k hk,by show X7 g.ow W.heap.size k=none;rw [I5 hk];exact e⟩)
theorem WK (f:Fx) (E:Env) (hf:Rx f E) (J:List De->Gh->World->Prop) (hJ:zG f E J) (b2:Nat) (pre:List De) (N:List ByteArray) (nb no vc i:Nat) (n:ByteArray) (g:Gh) (w:World) (u0 u1 u3 u6 u7 u8 u9 u10 u11 u12 u13 u14 u15 u16 u17 u18 u19 u20 u21 u22 u23 u24 u25 u26 u27 u28 u29 u30 u31 u32 u33 u34 u35 u36 u37 u38 u39 u40 u41 u42 u43 u44 u45 u46 u47:Value) {Q:Exit->Act->World->Prop} (hQ:∀ c (a:Act) (d:Option Tmp) (v:Value) w,Q (.panic c) (a.put d v) w->Q (.panic c) a w) (I0:Hid (Rt f J b2 pre N (.slice (some ⟨nb,no,none⟩) N.length vc) g w)) (hi:i<N.length) (hN:N.length<=1000) (HN:Hid (N.getD i ⟨#[]⟩=n)) (hok:Y1 n.data.toList=true)
 (uM:∀ (t18 t19 t20 t21 t22 t23 t24 t25 t26:Value) (d:Dd) (la:Option Addr) (c B6:Nat) (g':Gh) (w':World),Rt f J b2 pre N (.slice (some ⟨nb,no,none⟩) N.length vc) g' w'->Fa E n d->w'.ownsRow w.heap.size 45 4 (.slice la d.ls.length c) d.ls.length (I4 d.ls)->(∀ k,(Value.slice la d.ls.length c).ownBlock=some k->g'.ow k=none)->Cl w' B6 38 (De.vs ⟨d,.slice la d.ls.length c⟩)->g'.ow B6=none->w.heap.size<=w'.heap.size->Below f.base w w'->Q .normal { tmps:=#[u0,u1,.pointer (some ⟨b2,0,none⟩),u3,.slice (some ⟨nb,no,none⟩) N.length vc,.int .i64 (i:Int),.pointer (some ⟨B6,0,none⟩),.string d.wt,u8,u9,u10,u11,u12,u13,u14,u15,u16,u17,t18,t19,t20,t21,t22,t23,t24,t25,t26,u27,u28,u29,u30,u31,u32,u33,u34,u35,u36,u37,u38,u39,u40,u41,u42,u43,u44,u45,u46,u47],defers:=[] } w'):
 (Code.region 4 #[⟨some 19,.load 77 (.tmp 2),77, "l4_want.go:125",#[],none⟩,⟨some 20,.move (.tmp 4),73, "l4_want.go:125",#[],none⟩,⟨some 21,.move (.tmp 5),3, "l4_want.go:125",#[],none⟩,⟨some 22,.indexAddr 73 (.tmp 20) (.tmp 21),0, "l4_want.go:125",#[⟨1,.data⟩,⟨2,.data⟩],none⟩,⟨some 23,.load 9 (.tmp 22),9, "l4_want.go:125",#[⟨3,.data⟩],none⟩,⟨some 24,.call ⟨.value (.tmp 19),#[.tmp 23],#[9]⟩,57, "l4_want.go:125",#[⟨0,.data⟩,⟨4,.data⟩],none⟩,⟨some 18,.move (.tmp 24),57, "l4_want.go:125",#[⟨5,.data⟩],none⟩,⟨some 25,.extract (.tmp 18) 0,38, "l4_want.go:125",#[⟨6,.data⟩],none⟩,⟨some 26,.extract (.tmp 18) 1,9, "l4_want.go:125",#[⟨6,.data⟩,⟨10,.gcOnly .lateStores⟩],none⟩,⟨some 6,.alloc 38,0, "l4_want.go:125",#[],none⟩,⟨none,.store 38 (.tmp 6) (.tmp 25),0, "l4_want.go:125",#[⟨9,.data⟩,⟨7,.data⟩,⟨5,.chain⟩,⟨0,.phase⟩,⟨1,.phase⟩,⟨2,.phase⟩,⟨3,.phase⟩,⟨4,.phase⟩,⟨5,.phase⟩,⟨6,.phase⟩,⟨7,.phase⟩,⟨8,.textOnly .lateStores⟩,⟨9,.phase⟩],none⟩,⟨some 7,.assign (.tmp 26),9, "l4_want.go:125",#[⟨8,.data⟩,⟨10,.chain⟩,⟨0,.phase⟩,⟨1,.phase⟩,⟨2,.phase⟩,⟨3,.phase⟩,⟨4,.phase⟩,⟨5,.phase⟩,⟨6,.phase⟩,⟨7,.phase⟩,⟨8,.phase⟩,⟨9,.phase⟩,⟨10,.phase⟩],none⟩] true).wp Tryz.prog Q { tmps:=#[u0,u1,.pointer (some ⟨b2,0,none⟩),u3,.slice (some ⟨nb,no,none⟩) N.length vc,.int .i64 (i:Int),u6,u7,u8,u9,u10,u11,u12,u13,u14,u15,u16,u17,u18,u19,u20,u21,u22,u23,u24,u25,u26,u27,u28,u29,u30,u31,u32,u33,u34,u35,u36,u37,u38,u39,u40,u41,u42,u43,u44,u45,u46,u47],defers:=[] } w:=by
 refine wp_region_held_drew (S:=fun u=>u.cell? ⟨nb,no+i,none⟩=some (.string n)/\u.cell? ⟨b2,0,none⟩=some (.func (.func 20) #[.pointer (some ⟨f.kb,0,none⟩)] #[])) I1 ?_ fun hH=>?_
 · rw [<- HN.out];exact ⟨(Ua I0.out.rn hi).1,I0.out.c2.cell 0⟩
 obtain ⟨x0,hx0⟩:∃ x:World,x=w.drew:=⟨_,rfl⟩;rw [<- hx0] at hH ⊢;have gV:Hid (Rt f J b2 pre N (.slice (some ⟨nb,no,none⟩) N.length vc) { g with ow:=X7 g.ow w.heap.size } x0):=Q0 (I0.out.grow hJ (by rw [hx0];exact (Below.refl _ w).drew));have zxa:x0.heap.size<=w.heap.size:=by rw [hx0];exact Nat.le_refl _
 have zxb:w.heap.size<=x0.heap.size:=by rw [hx0];exact Nat.le_refl _
 have KO:Below f.base w x0:=by rw [hx0];exact (Below.refl _ w).drew
 clear hx0;refine tq 0 hH ?_ (v:=?_) (hv:=?e)
 case e=>intro wq hSw;(try dsimp only at hSw);obtain ⟨s1,s2⟩:=hSw;go_simp;try with_reducible rfl
 refine tq 1 hH ?_;refine tq 2 hH ?_;refine tq 3 hH ?_;refine tq 4 hH ?_ (v:=?_) (hv:=?e)
 case e=>intro wq hSw;(try dsimp only at hSw);obtain ⟨s1,s2⟩:=hSw;go_simp;try with_reducible rfl
 try simp only [qq]
 refine wpAnyH_ready (rs:=[5,9]) I1 U0 (AllReadyH.cons (o:=⟨some 24,.call ⟨.value (.tmp 19),#[.tmp 23],#[9]⟩,57,_,_,none⟩) rfl (fun K hK=>?_) (AllReadyH.cons (o:=⟨some 6,.alloc 38,0,_,_,none⟩) rfl (fun K hK=>?_) AllReadyH.nil))
 · go_simp
   refine (c20 f E hf { g with ow:=X7 g.ow w.heap.size } n x0 (hJ.st _ _ _ gV.out.j).1 (hJ.st _ _ _ gV.out.j).2.1 (hJ.st _ _ _ gV.out.j).2.2 hok).mono ?_;rintro e x1 ⟨d,la,c,rfl,hd,hr,hb,g1,hs,hl,hq,hk,hv⟩;have YR:=Q0 (gV.out.mv hJ hs hl hq hb.size hb hk);have HR1:=Q0 hr;have HD:=Q0 hd;have HV:=Q0 hv;have L1:=KO.trans hb;have z1:=Nat.le_trans zxb hb.size;clear hs hl hq hk hr hd hv hb;go_simp;clear hH;refine hK.out _ _ ?_ fun hH=>?_
   · rw [<- HN.out];exact ⟨(Ua YR.out.rn hi).1,YR.out.c2.cell 0⟩
   clear hK K;refine tq 6 hH ?_;refine tq 7 hH ?_;refine tq 8 hH ?_
   try simp only [qq]
   refine rq 9 fun K hK=>?_;go_simp;obtain ⟨x2,hx2⟩:∃ x:World,x=x1.alloc (.cells #[.string ⟨#[]⟩,.bool false,.string ⟨#[]⟩,.string ⟨#[]⟩,.string ⟨#[]⟩,.slice none 0 0,.int .i64 0,.string ⟨#[]⟩] 38):=⟨_,rfl⟩;rw [<- hx2];have B2:Below x1.heap.size x1 x2:=by rw [hx2];exact bA
   have C6:Hid (Cl x2 x1.heap.size 38 [.string ⟨#[]⟩,.bool false,.string ⟨#[]⟩,.string ⟨#[]⟩,.string ⟨#[]⟩,.slice none 0 0,.int .i64 0,.string ⟨#[]⟩]):=by show Cl _ _ _ _;rw [hx2];exact F3 x1 _ 38
   have Ix2:=Q0 (YR.out.grow hJ B2);clear hx2;clear hH;refine hK.out _ _ ?_ fun hH=>?_
   · rw [<- HN.out];exact ⟨(Ua Ix2.out.rn hi).1,Ix2.out.c2.cell 0⟩
   clear hK K
   try simp only [qq]
   refine rq 10 fun K hK=>?_;refine Xe rfl 38 _ _ rfl (B:=x1.heap.size) (j:=0) rfl (vs:=(De.vs ⟨d,.slice la d.ls.length c⟩)) rfl C6.out (by simp [De.vs]) (Ip _ rfl) I1 ?_;intro x3 hc ho;have B3:=B2.trans (ho.below Q8);have OW:=Q0 (YR.out.grow hJ B3);have C6':Hid (Cl x3 x1.heap.size 38 (De.vs ⟨d,.slice la d.ls.length c⟩)):=Q0 hc;have HR3:=Q0 (ownsRow_below HR1.out B3);clear hc ho;clear hH;refine hK.out _ _ ?_ fun hH=>?_
   · rw [<- HN.out];exact ⟨(Ua OW.out.rn hi).1,OW.out.c2.cell 0⟩
   clear hK K;refine tq 11 hH ?_
   try simp only [qq]
   refine wpAnyH_done I1 ?_ _;exact uM _ _ _ _ _ _ _ _ _ d la c _ _ _ OW.out HD.out (V4 HR3.out O0) (fun k e=>by show X7 g1.ow x1.heap.size k=none;rw [I5 (HR1.out.lt k e).2];exact HV.out k e) C6'.out (L8 Q8) (Nat.le_trans z1 B3.size) (L1.trans (B3.mono (by have:=(hJ.st _ _ _ I0.out.j).1.sz;omega)))
 go_simp;obtain ⟨x1,hx1⟩:∃ x:World,x=x0.alloc (.cells #[.string ⟨#[]⟩,.bool false,.string ⟨#[]⟩,.string ⟨#[]⟩,.string ⟨#[]⟩,.slice none 0 0,.int .i64 0,.string ⟨#[]⟩] 38):=⟨_,rfl⟩;rw [<- hx1];have B1:Below x0.heap.size x0 x1:=by rw [hx1];exact bA
 have C6:Hid (Cl x1 x0.heap.size 38 [.string ⟨#[]⟩,.bool false,.string ⟨#[]⟩,.string ⟨#[]⟩,.string ⟨#[]⟩,.slice none 0 0,.int .i64 0,.string ⟨#[]⟩]):=by show Cl _ _ _ _;rw [hx1];exact F3 x0 _ 38
 have YR:=Q0 (gV.out.grow hJ B1);have FO:x0.heap.size<x1.heap.size:=C6.out.lt;clear hx1;clear hH;refine hK.out _ _ ?_ fun hH=>?_
 · rw [<- HN.out];exact ⟨(Ua YR.out.rn hi).1,YR.out.c2.cell 0⟩
 clear hK K
 try simp only [qq]
 refine rq 5 fun K hK=>?_;go_simp;refine (c20 f E hf _ n x1 (hJ.st _ _ _ YR.out.j).1 (hJ.st _ _ _ YR.out.j).2.1 (hJ.st _ _ _ YR.out.j).2.2 hok).mono ?_;rintro e x2 ⟨d,la,c,rfl,hd,hr,hb,g1,hs,hl,hq,hk,hv⟩;have Ix2:=Q0 (YR.out.mv hJ hs hl hq hb.size hb hk);have h6:=hk x0.heap.size FO (L8 Q8);have TP:Hid (Cl x2 x0.heap.size 38 [.string ⟨#[]⟩,.bool false,.string ⟨#[]⟩,.string ⟨#[]⟩,.string ⟨#[]⟩,.slice none 0 0,.int .i64 0,.string ⟨#[]⟩]):=Q0 (h6.1.trans C6.out);have HK0:Hid (∀ k,k<x0.heap.size->X7 g.ow w.heap.size k=none->x2.heap[k]?=x0.heap[k]?/\g1.ow k=none):=fun k hk' e=>by
  have h:=hk k O0 (by show X7 (X7 g.ow w.heap.size) x0.heap.size k=none;rw [I5 hk'];exact e);exact ⟨h.1.trans (B1.block k hk'),h.2⟩
 have HR2:=Q0 hr;have HD:=Q0 hd;have HV:=Q0 hv;have HS:=Q0 hs;have HLL:=Q0 hl;have HQQ:=Q0 hq;have PO:=Q0 h6.2;have L2:=KO.trans ((B1.mono (by have:=(hJ.st _ _ _ gV.out.j).1.sz;omega)).trans hb);have z2:x1.heap.size<=x2.heap.size:=hb.size;have a1J:=Q0 hb;clear hs hl hq hk hr hd hv hb h6;go_simp;clear hH;refine hK.out _ _ ?_ fun hH=>?_
 · rw [<- HN.out];exact ⟨(Ua Ix2.out.rn hi).1,Ix2.out.c2.cell 0⟩
 clear hK K;refine tq 6 hH ?_;refine tq 7 hH ?_;refine tq 8 hH ?_
 try simp only [qq]
 refine rq 10 fun K hK=>?_;refine Xe rfl 38 _ _ rfl (B:=x0.heap.size) (j:=0) rfl (vs:=(De.vs ⟨d,.slice la d.ls.length c⟩)) rfl TP.out (by simp [De.vs]) (Ip _ rfl) I1 ?_;intro x3 hc ho;have hbb:=(hJ.st _ _ _ gV.out.j).1.sz;have hbo:=ho.below hbb;have OW:Hid (Rt f J b2 pre N (.slice (some ⟨nb,no,none⟩) N.length vc) g1 x3):=Q0 (gV.out.mv hJ (HS.out.same HQQ.out (HS.out.bl.trans hbo) (fun k o e=>ho.block k (fun c=>by rw [c,PO.out] at e;cases e))) HLL.out HQQ.out (by rw [ho.size];omega) ((B1.mono hbb).trans (a1J.out.trans hbo)) (fun k hk e=>⟨(ho.block k O0).trans (HK0.out k hk e).1,(HK0.out k hk e).2⟩));have C6':Hid (Cl x3 x0.heap.size 38 (De.vs ⟨d,.slice la d.ls.length c⟩)):=Q0 hc;have HR3:Hid (x3.ownsRow w.heap.size 45 4 (.slice la d.ls.length c) d.ls.length (I4 d.ls)):=Q0 (V4 (Y0 HR2.out fun k e=>ho.block k (by have:=(HR2.out.lt k e).1;omega)) O0);have z3:x3.heap.size=x2.heap.size:=ho.size;have L3:=L2.trans hbo;clear hc ho;clear hH;refine hK.out _ _ ?_ fun hH=>?_
 · rw [<- HN.out];exact ⟨(Ua OW.out.rn hi).1,OW.out.c2.cell 0⟩
 clear hK K;refine tq 11 hH ?_
 try simp only [qq]
 refine wpAnyH_done I1 ?_ _;exact uM _ _ _ _ _ _ _ _ _ d la c _ _ _ OW.out HD.out HR3.out HV.out C6'.out PO.out O0 L3
end Go.Proofs.YtdpoaadafcaffaaGreatDoor
namespace Go.Proofs.YtdpoaadafcaffaaGreatDoor
open Go.RowKit
theorem nL (x:De) (B6 l m:Nat) (w:World) (u1 u2 u3 u4 u5 u7 u8 u9 u10 u11 u12 u13 u14 u15 u16 u17 u18 u19 u20 u21 u22 u23 u24 u25 u26 u27 u28 u29 u30 u31 u32 u33 u34 u35 u36 u37 u38 u39 u40 u41 u42 u43 u44 u45 u46 u47:Value) {Q:Exit->Act->World->Prop} {R:World->Prop} (hc:Cl w B6 38 x.vs) (hY:YieldAt Fence.wide m Tryz.prog l #[.agg x.vs.toArray] w fun e W'=>e=.returned (.bool true)/\R W')
 (hK:∀ (t44 t45 t46:Value) W',R W'->Q .normal { tmps:=#[.func (.yield l) #[] #[],u1,u2,u3,u4,u5,.pointer (some ⟨B6,0,none⟩),u7,u8,u9,u10,u11,u12,u13,u14,u15,u16,u17,u18,u19,u20,u21,u22,u23,u24,u25,u26,u27,u28,u29,u30,u31,u32,u33,u34,u35,u36,u37,u38,u39,u40,u41,u42,u43,t44,t45,t46,.bool false],defers:=[] } W'):
 (Code.region 11 #[⟨some 44,.move (.tmp 0),128, "l4_want.go:131",#[],none⟩,⟨some 45,.load 38 (.tmp 6),38, "l4_want.go:131",#[],none⟩,⟨some 46,.call ⟨.value (.tmp 44),#[.tmp 45],#[38]⟩,4, "l4_want.go:131",#[⟨0,.data⟩,⟨1,.data⟩],none⟩,⟨some 47,.unOp .not 4 (.tmp 46),4, "l4_want.go:131",#[⟨2,.data⟩],none⟩] false).wp Tryz.prog Q { tmps:=#[.func (.yield l) #[] #[],u1,u2,u3,u4,u5,.pointer (some ⟨B6,0,none⟩),u7,u8,u9,u10,u11,u12,u13,u14,u15,u16,u17,u18,u19,u20,u21,u22,u23,u24,u25,u26,u27,u28,u29,u30,u31,u32,u33,u34,u35,u36,u37,u38,u39,u40,u41,u42,u43,u44,u45,u46,u47],defers:=[] } w:=by
 obtain ⟨⟨n,md,⟨m1,m2,m3⟩,ls,⟨rc,rt⟩,wt⟩,lv⟩:=x;have h0:w.cell? ⟨B6,0,none⟩=some (.string n):=hc.cell 0;have h1:w.cell? ⟨B6,1,none⟩=some (.bool md):=hc.cell 1;have h2:w.cell? ⟨B6,2,none⟩=some (.string m1):=hc.cell 2;have h3:w.cell? ⟨B6,3,none⟩=some (.string m2):=hc.cell 3;have h4:w.cell? ⟨B6,4,none⟩=some (.string m3):=hc.cell 4;have h5:w.cell? ⟨B6,5,none⟩=some lv:=hc.cell 5;have h6:w.cell? ⟨B6,6,none⟩=some (.int .i64 rc):=hc.cell 6;have h7:w.cell? ⟨B6,7,none⟩=some (.string rt):=hc.cell 7;obtain ⟨fn,tmps,assign,body,hy,hR⟩:=hY;rw [show (De.vs ⟨⟨n,md,⟨m1,m2,m3⟩,ls,⟨rc,rt⟩,wt⟩,lv⟩).toArray=#[.string n,.bool md,.string m1,.string m2,.string m3,lv,.int .i64 rc,.string rt] from rfl] at hy;clear hc;refine (wpIn_wide (n:=m+1)).1 ?_
 gi_wp2
 refine hR.mono ?_;rintro e W3 ⟨rfl,hr⟩
 gi_wp2
 exact hr
end Go.Proofs.YtdpoaadafcaffaaGreatDoor
