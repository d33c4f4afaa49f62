import Derived.Test.YtdjaajjndfbpmaaGreatDoorZ50
import Derived.Test.YtdjaajjndfbpmaaGreatDoorDH
import Derived.RangeFuncNested
import Derived.RangeFuncBound
import Derived.RangeFuncCalls
import Derived.RangeFuncLeaves
import Derived.TacticsInMore
import Derived.OwnWalkIn
set_option linter.unusedVariables false
set_option maxHeartbeats 8000000
set_option maxRecDepth 100000
namespace Go.Proofs.YtdjaajjndfbpmaaGreatDoor
open Proofs.Tryz
open Go.RowKit
open G (H6)
open G.T (F2 P6 X3 F3)
theorem Ab.same {f:Fx} {g:Gh} {w w':World} (h:Ab f g w) (d:g.q=[]) (j:Below f.base f.w0 w') (a:∀ k o,g.ow k=some o->w'.heap[k]?=w.heap[k]?):Ab f g w' where
 bl:=j
 FR:=h.FR
 kb:=(a _ _ h.BR).trans h.kb
 BR:=h.BR
 mr:=Kc h.mr (a _ _ h.TR)
 ar:=h.ar
 TR:=h.TR
 mw:=Kc h.mw (a _ _ h.ZR)
 aw:=h.aw
 ZR:=h.ZR
 pl:=Z0 h.pl fun k e=>a k _ (h.jS k e)
 jS:=h.jS
 rd:=h.rd.keep fun k e _=>a k _ (h.ord k e)
 ord:=h.ord
 its:=fun it c=>by rw [d] at c;cases c
 ru:=fun i x e=>(h.ru i x e).keep fun k b=>a k _ (h.ER i x e k b)
 ER:=h.ER
 wr:=fun i x e=>Z0 (h.wr i x e) fun k b=>a k _ (h.aS i x e k b)
 aS:=h.aS
 lS:=h.lS
 key:=h.key
 only:=h.only
 kw:=h.kw
 JS:=h.JS
 inj:=h.inj
 JR:=h.JR
theorem og.deed {E:Env} (hE:Y7 E) {g:Gh} (h:og E g none) (f:g.q=[]) {i:Nat} {x:Ru} (a:g.rs[i]?=some x):Xc E x.k.m.nm ⟨x.k.m.nm,true,x.k.m,x.ls,x.r,x.wt⟩:=by
 have p:=(hE.made x.k.m.nm).2 ⟨x.k.m,h.mem i x a,rfl⟩;rcases h.looks hE f a with ⟨s,_⟩ | ⟨m,e,o,n,l⟩
 · exact absurd p s
 obtain rfl:=hE.one _ _ e (h.mem i x a) o;refine .inr ⟨x.k.m,x.ls,e,rfl,n,l,?_⟩
 cases hs:x.qR with
 | act=>have:=(h.act i x a).1 hs;cases this
 | yR=>have:=(h.yR i x a).1 hs;rw [f] at this;cases this
 | fin=>
  obtain ⟨⟨b,d⟩,c⟩:=h.fin i x a hs;rw [Y3 b,Y3 b,d,c]
 | vR j=>
  obtain ⟨b,c⟩:=h.non i x a (by rw [hs];simp);obtain ⟨⟨_,d⟩,_⟩:=h.vR i x j a hs;rw [R3 (by rw [b];simp),R3 (by rw [b];simp),d,c]
theorem lJ {w u:World} {base:Nat} {v:Value} {ls:List M.L4} (h:w.ownsRow base 52 4 v ls.length (R4 ls)) (d:Below w.heap.size w u):Src u v 4 ls.length (R4 ls):=by
 obtain ⟨a,c,h1,h2⟩:=yf h;have h3:=M.Y_ h2 d
 cases a with
 | none=>
  have:ls=[]:=by
   rcases h3 with h3 | ⟨b,off,h,_⟩
   · exact h3
   cases h
  rw [h1,this];exact .inl ⟨⟨c,rfl⟩,rfl,rfl⟩
 | some ad=>exact .inr ⟨ad,c,h1,Qi _,Wo h3⟩
theorem MQ (base:Nat) (v:Value) (ls:List M.L4) (w:World) (h:w.ownsRow base 52 4 v ls.length (R4 ls)) (hl:ls.length<=1000):
 Calls prog 54 #[v] w fun e w'=>∃ v',e=.returned v'/\w'.ownsRow w.heap.size 52 4 v' ls.length (R4 ls)/\Below w.heap.size w w':=by
 have H:=Q0 h;rcases h.2 with ⟨hv,h0⟩ | ⟨g,cap,cur,hv,_⟩
 · subst hv
   have f:=Ce.1 h0;subst f;clear h;have d:∀ u,(binOp .eql 48 (.slice none 0 0) (.slice none 0 0)).run prog u=.ok (.bool true) u:=fun u=>U2;go_enter func54,ntmps54;go_wp2;go_ret;exact ⟨_,rfl,F9 _ _ _ _,F4 _ _⟩
 subst hv;have a:Below w.heap.size w (w.alloc (.cells #[] 52)):=bA;have m:=Q0 (lJ h a);have n:Hid ((w.alloc (.cells #[] 52)).ownsRow w.heap.size 52 4 (.slice (some ⟨w.heap.size,0,none⟩) 0 0) 0 []):=Q0 (Gm w #[] 0 P9 (I5 _) rfl);have o:=Q0 (He ls);have j:w.heap.size<=(w.alloc (.cells #[] 52)).heap.size:=X0;have d:∀ u,(binOp .eql 48 (.slice (some ⟨g,0,none⟩) ls.length cap) (.slice none 0 0)).run prog u=.ok (.bool false) u:=fun u=>U2;clear h;go_enter func54,ntmps54
 go_wp2_with (refine Ve rfl _ _ 48 rfl w.heap.size 52 4 underlying48 Ol K3 (.slice (some ⟨w.heap.size,0,none⟩) 0 0) 0 [] rfl n.out _ ls.length (R4 ls) rfl m.out o.out O0 j ?_;intro v' w2 c g2 l;have p:=Q0 c;have b:=Q0 g2;clear c g2 l)
 go_ret;refine ⟨_,rfl,by have:=p.out;rw [R7,Ba] at this;exact this,?_⟩;exact ⟨b.out.os.trans a.os,b.out.tape.trans a.tape,b.out.output.trans a.output,Z4 a.size b.out.size,fun k i=>(b.out.block k J4 (fun e=>by have:k=w.heap.size:=j6 e;omega)).trans (a.block k i)⟩
theorem yP (f:Fx) (E:Env) (hf:BD f E) (g:Gh) (nm:ByteArray) (w:World) (hs:Ab f g w) (hl:og E g none) (hq:g.q=[]) (hn:J2 nm.data.toList=true):
 Calls prog 22 #[pt f.kb,.string nm] w fun e w'=>∃ (d:Dd) (la:Option Addr) (c:Nat),e=.returned (.tuple #[.agg (De.vs ⟨d,.slice la d.ls.length c⟩).toArray,.string d.wt])/\Xc E nm d/\w'.ownsRow w.heap.size 52 4 (.slice la d.ls.length c) d.ls.length (R4 d.ls)/\Below f.base w w'/\∃ g',Ab f g' w'/\og E g' none/\g'.q=[]/\(∀ k,k<w.heap.size->g.ow k=none->w'.heap[k]?=w.heap[k]?/\g'.ow k=none)/\∀ k,(Value.slice la d.ls.length c).ownBlock=some k->g'.ow k=none:=by
 have vS:Y7 E:=by rw [hf.hE];exact zb hf.tr hf.pt
 obtain ⟨pa,pc,hpv,_⟩:=Yp hs.pl;have VX:=Q0 hpv;have WX:Hid (∀ u {g'},Ab f g' u->G.Ad u pa f.ms):=fun u g' h=>by
  obtain ⟨a,c,h1,h2⟩:=Yp h.pl;rw [hpv] at h1;have:pa=a:=by injection h1
  rw [this];exact h2
 have H:=Q0 hs;have s:=Q0 hl;have SV:=Q0 hq;have I:=Q0 hf;have HN:=Q0 hn;have xS:=Q0 vS;obtain ⟨w1,hw1⟩:∃ u:World,u=w.alloc (.cells #[.string ⟨#[]⟩,.bool false,.string ⟨#[]⟩,.string ⟨#[]⟩,.string ⟨#[]⟩,.slice none 0 0,.int .i64 0,.string ⟨#[]⟩] 50):=⟨_,rfl⟩;have HW1:=Q0 hw1;have hb1:Below w.heap.size w w1:=by rw [hw1];exact bA
 have C4:Hid (Cl w1 w.heap.size 50 [.string ⟨#[]⟩,.bool false,.string ⟨#[]⟩,.string ⟨#[]⟩,.string ⟨#[]⟩,.slice none 0 0,.int .i64 0,.string ⟨#[]⟩]):=by show Cl _ _ _ _;rw [hw1];exact U1 w _ 50
 have PS:Hid (Ab f { g with ow:=U8 g.ow w.heap.size } w1):=Q0 ((hs.U8 w.heap.size P9).grow hb1);have HB1:Hid (Below f.base w w1):=Q0 (hb1.mono hs.sz);have HQ1:=Q0 hb1;have d1:=(PS.out.kb.cell 1).trans (V3 some hpv);clear hs hl hq hf hn vS hpv hw1 hb1;go_enter func22,ntmps22;rw [show pt f.kb=.pointer (some ⟨f.kb,0,none⟩) from rfl]
 go_upto_region 1 with fail
 rw [<- HW1.out];clear HW1
 go_wp2_with fail
 refine (G.c51 pa pc f.ms nm w1 (Z4 (Fa I.out.pt) K3) (WX.out w1 PS.out) (G.Lf I.out.pt)).mono ?_;rintro e V ⟨⟨y,mth,rfl,hy⟩,hb2⟩;have HS2:=Q0 (PS.out.grow hb2);have C42:=Q0 (C4.out.below hb2 C4.out.lt);have HB2:Hid (Below f.base w V):=Q0 (HB1.out.trans (hb2.mono (by have:=HB1.out.size;have:=H.out.sz;omega)));have Z:=Q0 (bT HQ1.out hb2);clear d1 hb2 C4 PS HB1
 go_upto_region 2 with fail
 obtain ⟨U,hw3⟩:∃ u:World,u=V.alloc (.cells #[.string y.nm,.string y.tl,.string y.ar] 47):=⟨_,rfl⟩;rw [<- hw3];have hb3:Below V.heap.size V U:=by rw [hw3];exact bA
 have C6:Hid (Cl U V.heap.size 47 [.string y.nm,.string y.tl,.string y.ar]):=by show Cl _ _ _ _;rw [hw3];exact U1 V _ 47
 have KR:=Q0 (HS2.out.grow hb3);have C43:=Q0 (C42.out.below hb3 C42.out.lt);have HB3:Hid (Below f.base w U):=Q0 (HB2.out.trans (hb3.mono (by have:=HB2.out.size;have:=H.out.sz;omega)));have HQ3:=Q0 (bT Z.out hb3);clear hw3 hb3 C42 HS2 HB2;cases mth
 · have HY:Hid (G.Ia f.ms nm):=by
    rcases hy with ⟨h,_⟩ | ⟨_,h⟩
    · cases h
    exact h
   clear hy;have d0:U.cell? ⟨f.kb,0,none⟩=some (.slice f.ta f.fs.length f.tc):=KR.out.kb.cell 0
   go_wp2_with fail
   refine (G.qO f.ta f.tc f.fs nm U I.out.tr.1 (G.T.U0 I.out.fa (KR.out.bl.mono P9)) (G.T.di I.out.tr)).mono ?_;rintro e w4 ⟨h43,Y⟩;obtain ⟨r,he,hpl⟩:=Iw I.out.tr h43 HY.out;obtain ⟨rc,rt⟩:=r;have he':e=.returned (.agg #[.int .i64 rc,.string rt]):=he;subst he';have HWF:Hid (Xc E nm ⟨nm,false,N7,[],⟨rc,rt⟩,⟨#[]⟩⟩):=Q0 (.inl ⟨⟨rc,rt⟩,by rw [I.out.hE];exact hpl,rfl⟩);have HQ4:=Q0 (bT HQ3.out Y);have TV:=Q0 (KR.out.grow Y);have C44:=Q0 (C43.out.below Y C43.out.lt);have NR:Hid (Below f.base w w4):=Q0 (HB3.out.trans (Y.mono (by have:=HB3.out.size;have:=H.out.sz;omega)));clear h43 he hpl d0 Y
   go_wp2_with (refine Zi rfl 50 _ _ rfl (B:=w.heap.size) (j:=0) rfl (vs:=[.string nm,.bool false,.string ⟨#[]⟩,.string ⟨#[]⟩,.string ⟨#[]⟩,.slice none 0 0,.int .i64 rc,.string rt]) rfl C44.out X0 (by intro v hv;simp at hv;rcases hv with rfl | rfl | rfl | rfl | rfl | rfl <;> rfl) U2 ?_;intro t hc5 ho5;have xU:=Q0 hc5;have LW:=Q0 ho5;clear hc5 ho5)
   refine K4 (Nb (P:=prog) (ty:=50) rfl _ _ w.heap.size _ _ rfl xU.out.blk underlying50 rfl U2) rfl ?_;have hkk:∀ k,k<w.heap.size->t.heap[k]?=w.heap[k]?:=fun k C=>(LW.out.block k O0).trans (HQ4.out.block k C);exact ⟨⟨nm,false,N7,[],⟨rc,rt⟩,⟨#[]⟩⟩,none,0,rfl,HWF.out,F9 _ _ _ _,NR.out.trans (LW.out.below H.out.sz),_,TV.out.same SV.out (TV.out.bl.trans (LW.out.below H.out.sz)) (fun k o e=>LW.out.block k (fun c=>by have e:U8 g.ow w.heap.size k=some o:=e;rw [c,Q9 P9] at e;cases e)),⟨s.out.mem,s.out.inj,s.out.his,s.out.fin,s.out.non,s.out.act,s.out.yR,s.out.bS,s.out.nS,s.out.sS,s.out.vR,s.out.WR⟩,SV.out,fun k C e=>⟨hkk k C,by show U8 g.ow w.heap.size k=none;rw [Q5 C];exact e⟩,fun k e=>by cases e⟩
 obtain ⟨iy,hiy,hgy,hny⟩:∃ i,i<f.ms.length/\f.ms.getD i N7=y/\y.nm=nm:=by
  rcases hy with ⟨_,h⟩ | ⟨h,_⟩
  · exact h
  cases h
 clear hy;have LZ:toM y∈E.ms:=by rw [I.out.hE];exact jd.2 ⟨iy,hiy,by rw [hgy]⟩
 have UV:=Q0 LZ;have MW:=Q0 hny;have hms:E.ms.length<=30:=by rw [I.out.hE];show (f.ms.map toM).length<=30;rw [qc];exact Fa I.out.pt
 have hrl:=s.out.len hms;have HC:=Q0 (c53 f E I.out { g with ow:=U8 g.ow w.heap.size } (toM y) U KR.out (by show y.nm.size<=20;rw [MW.out];exact Qb HN.out) (by show g.rs.length<=1000;omega) (by show g.q.length<=1000;rw [SV.out];simp));have e0:U.cell? ⟨V.heap.size,0,none⟩=some (.string y.nm):=C6.out.cell 0;have e1:U.cell? ⟨V.heap.size,1,none⟩=some (.string y.tl):=C6.out.cell 1;have e2:U.cell? ⟨V.heap.size,2,none⟩=some (.string y.ar):=C6.out.cell 2;clear hiy hgy hny LZ hrl
 go_wp2_with fail
 refine HC.out.mono ?_;rintro e w4 ⟨g',i,x,rfl,hs4,MU,hgi,Y,XX⟩;rw [show pt x.k.B=.pointer (some ⟨x.k.B,0,none⟩) from rfl];have hL0':og E { g with ow:=U8 g.ow w.heap.size } none:=⟨s.out.mem,s.out.inj,s.out.his,s.out.fin,s.out.non,s.out.act,s.out.yR,s.out.bS,s.out.nS,s.out.sS,s.out.vR,s.out.WR⟩;obtain ⟨hL4,hxm,hext,VV⟩:=hL0'.LP xS.out H.out.JR UV.out MU hgi (fun i' e=>by cases e) hms;have HL4:=Q0 hL4;have TV:=Q0 hs4;have HXM:=Q0 hxm;have HGI:=Q0 hgi;have NR:=Q0 (HB3.out.trans Y);have hk4:=XX w.heap.size C43.out.lt (Q9 P9);have C44:Hid (Cl w4 w.heap.size 50 [.string ⟨#[]⟩,.bool false,.string ⟨#[]⟩,.string ⟨#[]⟩,.string ⟨#[]⟩,.slice none 0 0,.int .i64 0,.string ⟨#[]⟩]):=Q0 (hk4.1.trans C43.out);have HOW:Hid (g'.ow w.heap.size=none):=Q0 hk4.2;have kT:Hid (∀ k,k<w.heap.size->g.ow k=none->w4.heap[k]?=w.heap[k]?/\g'.ow k=none):=fun k C e=>by
  have h:=XX k (by have:=HQ3.out.size;omega) (by show U8 g.ow w.heap.size k=none;rw [Q5 C];exact e);exact ⟨h.1.trans (HQ3.out.block k C),h.2⟩
 clear hL0' hL4 hs4 MU hgi Y XX hk4 hxm hext VV HC e0 e1 e2 hms C43 KR HB3 C6
 go_wp2_with fail
 go_loopg [] (Cg g') (fun k wr=>∃ g2:Gh,Hid (Ab f g2 wr)/\Hid (og E g2 none)/\Hid (∃ b,g2.rs[i]?=some b/\b.k=x.k)/\Hid (Cl wr w.heap.size 50 [.string ⟨#[]⟩,.bool false,.string ⟨#[]⟩,.string ⟨#[]⟩,.string ⟨#[]⟩,.slice none 0 0,.int .i64 0,.string ⟨#[]⟩])/\Hid (g2.ow w.heap.size=none)/\Hid (∀ k,k<w.heap.size->g.ow k=none->wr.heap[k]?=w.heap[k]?/\g2.ow k=none)/\Hid (Below f.base w wr)/\k=Cg g2)
 case atStart=>exact ⟨g',TV.out,HL4.out,⟨x,HGI.out,rfl⟩,C44.out,HOW.out,kT.out,NR.out,rfl⟩
 clear kT;obtain ⟨g2,p,D,HXI,WV,lT,kT,NW,rfl⟩:=hrel
 cases hq2:g2.q with
 | nil=>
  have hrd:=p.out.rd;rw [hq2] at hrd;obtain ⟨ra,rc,yU⟩:=hrd.form;have d4:wr.cell? ⟨f.kb,4,none⟩=some (.slice ra 0 rc):=(p.out.kb.cell 4).trans (V3 some yU);obtain ⟨b,hy2,hyk⟩:=HXI.out;have Z:=Q0 hq2;have hyn:b.k.m.nm=nm:=by rw [hyk,HXM.out];exact MW.out
  have a1O:Hid (Xc E nm ⟨nm,true,b.k.m,b.ls,b.r,b.wt⟩):=by
   have:=D.out.deed xS.out hq2 hy2;rw [hyn] at this;exact this
  have HYN:=Q0 hyn;clear hyn;have uT:=p.out.ru i b hy2;have hls:=(ze xS.out (xS.out.ms _ (D.out.mem _ b hy2)) (D.out.his _ b hy2)).1;rw [<- hyk];have RV:=Q0 uT.hB;have VR:=Q0 uT.lk;obtain ⟨la,lc,hlv,_⟩:=yf uT.lk;have KU:=Q0 hlv;clear hlv;have a1P:b.k.B≠w.heap.size:=by
   have h1:=p.out.ER i b hy2 b.k.B (.inl X0);intro e;rw [e,lT.out] at h1;cases h1
  clear uT hrd yU hq2 hyk
  go_upto_region 9 with fail
  go_upto_region 10 with (refine Bh rfl (yg 50 _ rfl (B:=b.k.B) (j:=0) (cs:=[.string b.k.m.nm,.bool true,.string b.k.m.nm,.string b.k.m.tl,.string b.k.m.ar,.slice la b.ls.length lc,.int .i64 b.r.code,.string b.r.tx]) rfl (fun q v e=>by
   have hq:q<8:=(Jd.1 e).1;rw [R7,RV.out.cell q];have e2:b.cells=[.string b.k.m.nm,.bool true,.string b.k.m.nm,.string b.k.m.tl,.string b.k.m.ar,.slice la b.ls.length lc,.int .i64 b.r.code,.string b.r.tx]++[.string b.wt]:=by unfold Ru.cells;rw [KU.out];rfl
   rw [e2,Eb hq];exact e) underlying50 rfl U2) ?_)
  obtain ⟨t,XR⟩:∃ u:World,u=wr.alloc (.cells #[.string b.k.m.nm,.bool true,.string b.k.m.nm,.string b.k.m.tl,.string b.k.m.ar,.slice la b.ls.length lc,.int .i64 b.r.code,.string b.r.tx] 50):=⟨_,rfl⟩;rw [<- XR];have hb5:Below wr.heap.size wr t:=by rw [XR];exact bA
  have X:Hid (Cl t wr.heap.size 50 [.string b.k.m.nm,.bool true,.string b.k.m.nm,.string b.k.m.tl,.string b.k.m.ar,.slice la b.ls.length lc,.int .i64 b.r.code,.string b.r.tx]):=by show Cl _ _ _ _;rw [XR];exact U1 wr _ 50
  have YX:=Q0 (ownsRow_below VR.out hb5);have ZX:=Q0 (RV.out.below hb5 RV.out.lt);have C45:=Q0 (WV.out.below hb5 WV.out.lt);have eU:=Q0 (NW.out.trans (hb5.mono (by have:=NW.out.size;have:=H.out.sz;omega)));have d5:t.cell? ⟨wr.heap.size,5,none⟩=some (.slice la b.ls.length lc):=X.out.cell 5;have UR:w.heap.size<wr.heap.size:=WV.out.lt;have hzB:b.k.B<wr.heap.size:=RV.out.lt;rw [KU.out] at YX;have HK5:=Q0 hb5;clear XR hb5 RV VR d4
  go_wp2_with fail
  refine (MQ f.base _ b.ls t YX.out O0).mono ?_;rintro e L ⟨v',rfl,hr6,hb6⟩;obtain ⟨Q,O,hv',_⟩:=yf hr6;subst hv';have MZ:=Q0 hr6;have zU:t.heap.size<=L.heap.size:=hb6.size;have a3G:wr.heap.size<t.heap.size:=X.out.lt;have XV:=Q0 (X.out.below hb6 X.out.lt);have fU:=Q0 (ZX.out.below hb6 ZX.out.lt);have C46:=Q0 (C45.out.below hb6 C45.out.lt);have a0h:=Q0 (eU.out.trans (hb6.mono (by have:=eU.out.size;have:=H.out.sz;omega)));have q5:L.cell? ⟨wr.heap.size,5,none⟩=some (.slice la b.ls.length lc):=XV.out.cell 5;have f5:=XV.out.opn 5;have HK6:=Q0 hb6;clear d5 hr6 hb6 X ZX C45 eU YX
  go_upto_region 11 with fail
  have n:=I6 L wr.heap.size 5 (.slice Q b.ls.length O);have X:Hid (Cl (L.setCell ⟨wr.heap.size,5,none⟩ (.slice Q b.ls.length O)) wr.heap.size 50 [.string b.k.m.nm,.bool true,.string b.k.m.nm,.string b.k.m.tl,.string b.k.m.ar,.slice Q b.ls.length O,.int .i64 b.r.code,.string b.r.tx]):=Q0 (XV.out.set 5 (.slice Q b.ls.length O));generalize (L.setCell ⟨wr.heap.size,5,none⟩ (.slice Q b.ls.length O))=w7 at*;have HK7:=Q0 n;have NZ:=Q0 (Z0 MZ.out fun k e=>n.block k (by have:=(MZ.out.lt k e).1;omega));have fU:=Q0 (fU.out.on n O0);have C47:=Q0 (C46.out.on n O0);have a0i:=Q0 (a0h.out.trans (n.below (by have:=NW.out.size;have:=H.out.sz;omega)));clear q5 f5 n XV C46 a0h;refine F7 (S:=fun u=>Cl u wr.heap.size 50 [.string b.k.m.nm,.bool true,.string b.k.m.nm,.string b.k.m.tl,.string b.k.m.ar,.slice Q b.ls.length O,.int .i64 b.r.code,.string b.r.tx]/\Cl u b.k.B 103 b.cells) U2 ?_ fun N=>?_
  · exact ⟨X.out,fU.out⟩
  obtain ⟨y0,hy0⟩:∃ x:World,x=w7.drew:=⟨_,rfl⟩;rw [<- hy0] at N ⊢;have hby:Below w7.heap.size w7 y0:=by rw [hy0];exact (F4 _ w7).drew
  have HKy:=Q0 hby
  have HRy:=Q0 (ownsRow_below NZ.out hby);have C4y:=Q0 (C47.out.below hby C47.out.lt);have a1Q:=Q0 (X.out.below hby X.out.lt);have HBy:=Q0 (fU.out.below hby fU.out.lt);have a1R:=Q0 (a0i.out.trans (hby.mono (by have:=a0i.out.size;have:=H.out.sz;omega)));clear hy0 hby
  refine tk (i:=0) (oi:=⟨some 63,.load 50 (.tmp 10),50,_,_,none⟩) (v:=.agg #[.string b.k.m.nm,.bool true,.string b.k.m.nm,.string b.k.m.tl,.string b.k.m.ar,.slice Q b.ls.length O,.int .i64 b.r.code,.string b.r.tx]) rfl U2 rfl ?e N ?_
  case e=>intro wq hSw;exact yg 50 _ rfl (B:=wr.heap.size) (j:=0) (cs:=[.string b.k.m.nm,.bool true,.string b.k.m.nm,.string b.k.m.tl,.string b.k.m.ar,.slice Q b.ls.length O,.int .i64 b.r.code,.string b.r.tx]) rfl (fun q v e=>by rw [R7];exact (hSw.1.cell q).trans e) underlying50 rfl U2
  refine tq 1 N ?_;refine tq 2 N ?_;refine tq 3 N ?_;refine tq 4 N ?_ (v:=?_) (hv:=?e)
  case e=>intro wq hSw;(try dsimp only at hSw);have d8:wq.cell? ⟨b.k.B,8,none⟩=some (.string b.wt):=hSw.2.cell 8;go_simp;try with_reducible rfl
  try simp only [qq]
  refine rq 5 fun K hK=>?_;refine qh rfl 50 _ _ rfl (B:=w.heap.size) (j:=0) rfl (vs:=[.string b.k.m.nm,.bool true,.string b.k.m.nm,.string b.k.m.tl,.string b.k.m.ar,.slice Q b.ls.length O,.int .i64 b.r.code,.string b.r.tx]) rfl C4y.out X0 (by intro v hv;simp at hv;rcases hv with rfl | rfl | rfl | rfl | rfl | rfl | rfl | rfl <;> rfl) U2 ?_;intro w8 hc8 OZ;have HK8:=Q0 OZ;have HR8:=Q0 (Z0 HRy.out fun k e=>OZ.block k (by have:=(HRy.out.lt k e).1;omega));have a1S:=Q0 (a1Q.out.on OZ O0);have HB8:=Q0 (HBy.out.on OZ a1P);have HC8:=Q0 hc8;have a0j:=Q0 (a1R.out.trans (OZ.below H.out.sz));clear hc8 OZ N;refine hK.out _ _ ?_ fun N=>?_
  · exact ⟨a1S.out,HB8.out⟩
  clear hK K;refine I4 6 N ?_;refine a_ ?_;clear N;go_wp2;refine K4 (Nb (P:=prog) (ty:=50) rfl _ _ w.heap.size _ _ rfl HC8.out.blk underlying50 rfl U2) rfl ?_;have hkk:∀ k,k<wr.heap.size->k≠w.heap.size->w8.heap[k]?=wr.heap[k]?:=fun k C hne=>by
   have h7:w7.heap.size=L.heap.size:=HK7.out.size;exact (HK8.out.block k hne).trans ((HKy.out.block k O0).trans ((HK7.out.block k O0).trans ((HK6.out.block k O0).trans (HK5.out.block k C))))
  exact ⟨⟨nm,true,b.k.m,b.ls,b.r,b.wt⟩,Q,O,by rw [<- HYN.out];rfl,a1O.out,D5 HR8.out O0,a0j.out,{ g2 with ow:=U8 g2.ow wr.heap.size },(p.out.U8 wr.heap.size P9).same Z.out (H.out.bl.trans a0j.out) (fun k o e=>by
   have C:k<wr.heap.size:=Ph fun c=>by
    have e:U8 g2.ow wr.heap.size k=some o:=e;rw [Q9 O0] at e;cases e
   have e:U8 g2.ow wr.heap.size k=some o:=e;rw [Q5 C] at e;exact hkk k C (fun c=>by rw [c,lT.out] at e;cases e)),⟨D.out.mem,D.out.inj,D.out.his,D.out.fin,D.out.non,D.out.act,D.out.yR,D.out.bS,D.out.nS,D.out.sS,D.out.vR,D.out.WR⟩,Z.out,fun k C e=>⟨(hkk k O0 O0).trans (kT.out k C e).1,by show U8 g2.ow wr.heap.size k=none;rw [Q5 O0];exact (kT.out k C e).2⟩,fun k e=>Q9 (by have:=(HR8.out.lt k e).1;omega)⟩
 | cons it q'=>
  have hrd:=p.out.rd;rw [hq2,zh] at hrd;obtain ⟨ga,off,cap,yU,hcell,hcap,hrow⟩:=hrd.head;rw [qc] at yU hrow;have hit:=p.out.JR it (by rw [hq2];exact Uh ..);obtain ⟨l,hxi⟩:∃ l,g2.rs[it.i]?=some l:=⟨_,F8 hit⟩;obtain ⟨hLp,hov,hgo,hre⟩:=D.out.pop hq2 hxi;obtain ⟨A,HNA⟩:∃ A,Hid ((if cap=1 then some (⟨ga,off,none⟩:Addr) else some ⟨ga,off+1,none⟩)=A):=⟨_,rfl⟩;rw [HNA.out] at hrow;have hsl:∀ u,(Instr.slice 96 (.slice (some ⟨ga,off,none⟩) (q'.length+1) cap) (some (.int .i64 1)) none none).run prog u=.ok (.slice A q'.length (cap - 1)) u:=fun u=>by
   rw [run_slice_l u 96 (some ⟨ga,off,none⟩) (q'.length+1) cap U2 .i64 1 K3 O0,show prog.elem 96=1 from by kernel_rfl,sizeOf1];rw [<- HNA.out];by_cases hc1:cap=1
   · simp [sliced,hc1]
   simp [sliced,hc1,Qj]
  have hna:∀ k,(Value.slice A q'.length (cap - 1)).ownBlock=some k->k=ga:=fun k e=>by
   rw [<- HNA.out] at e;split at e <;> exact (j6 e).symm
  have hga:=p.out.ord ga (by rw [yU];rfl);have hgl:ga≠f.kb:=fun e=>by rw [e,p.out.BR] at hga;cases hga
  have d4:=(p.out.kb.cell 4).trans (V3 some yU);have f4:=p.out.kb.opn 4;have hkx:g2.ks.getD it.i Kj=l.k:=by
   show (g2.rs.map (·.k)).getD it.i Kj=l.k;rw [Ao,Kb,hxi];rfl
  have hits:=p.out.its;have a1T:=Q0 hrow;have OW:=Q0 hna;have W:=Q0 hxi;have HLP:=Q0 hLp;have Z:=Q0 hq2;have PW:=Q0 hga;have hpp:=qi (x':={ l with qR:=.act,st:=true }) hxi;have a3H:=(ze xS.out (xS.out.ms _ (D.out.mem _ l hxi)) (D.out.his _ l hxi)).1;have zV:Hid (Cg { g2 with rv:=.slice A q'.length (cap - 1),rs:=g2.rs.set it.i { l with qR:=.act,st:=true },q:=q' }<=Cg g2/\(l.st=false->Cg { g2 with rv:=.slice A q'.length (cap - 1),rs:=g2.rs.set it.i { l with qR:=.act,st:=true },q:=q' }<Cg g2)):=by
   have h1:Xk { l with qR:=.act,st:=true }<=Xk l:=by unfold Xk;simp;split <;> omega
   refine ⟨?_,fun hst=>?_⟩
   · unfold Cg
     simp only [Ed];omega
   have h2:Xk { l with qR:=.act,st:=true }+1=Xk l:=by unfold Xk;simp [hst];omega
   unfold Cg;simp only [Ed];omega
  have gU:Hid (∀ t,kr f.kb wr t->Cl t f.kb 98 (M_ f (.slice A q'.length (cap - 1)))->Ab f { g2 with rv:=.slice A q'.length (cap - 1),rs:=g2.rs.set it.i { l with qR:=.act,st:=true },q:=q' } t):=fun t n hkb=>by
   have h5:=p.out.fP (rv':=.slice A q'.length (cap - 1)) (q':=q') (n.ex (.inl p.out.BR)) hkb (by
    refine a1T.out.keep fun k e hl=>n.block k fun e2=>?_;have:=OW.out k e;exact hgl (this.symm.trans e2)) (fun k e=>by rw [OW.out k e];exact PW.out) (fun jt hj=>by
    obtain ⟨k1,k2⟩:=hits jt (by rw [Z.out];exact Fg _ hj);refine ⟨?_,k2⟩
    cases jt with
    | go i=>trivial
    | re i r b7 b5=>exact ⟨k1.1.on n (fun e=>by have:=k2.1;rw [e,p.out.BR] at this;cases this),k1.2.on n (fun e=>by have:=k2.2;rw [e,p.out.BR] at this;cases this)⟩) (fun jt hj=>p.out.JR jt (by rw [Z.out];exact Fg _ hj))
   have uT:=h5.ru it.i l W.out;exact h5.run (x':={ l with qR:=.act,st:=true }) W.out (Ex.refl _ _) (uT.gh rfl rfl rfl rfl rfl rfl rfl) (fun k C=>h5.ER it.i l W.out k (Aw.of (x:=l) rfl rfl rfl rfl C)) rfl rfl rfl
  have HKS:=Q0 (fun (t:World) (n:kr f.kb wr t)=>n);have HIT:=Q0 (hits it (by rw [Z.out];exact Uh ..));have hne0:¬ ((q'.length:Int)+1=0):=O0;clear hrow hna yU hLp hq2 hga hpp hits hrd
  cases it with
  | go j=>
   have hst:=hgo j rfl;have a1U:=Q0 (zV.out.2 hst);have hcell':wr.cell? ⟨ga,off,none⟩=some (.func (.func 87) #[] #[.pointer (some ⟨l.k.c2,0,none⟩),.pointer (some ⟨l.k.c5,0,none⟩),.pointer (some ⟨l.k.pR,0,none⟩),.pointer (some ⟨l.k.uR,0,none⟩)]):=by
    have h1:It.v g2.ks (.go j)=(g2.ks.getD j Kj).be:=rfl;have h2:g2.ks.getD j Kj=l.k:=hkx;rw [hcell,h1,h2];rfl
   clear hcell hgo hre hkx hst
   go_upto_region 8 with fail
   have n:=I6 wr f.kb 4 (.slice A q'.length (cap - 1));have NU:Cl (wr.setCell ⟨f.kb,4,none⟩ (.slice A q'.length (cap - 1))) f.kb 98 (M_ f (.slice A q'.length (cap - 1))):=p.out.kb.set 4 (.slice A q'.length (cap - 1));generalize (wr.setCell ⟨f.kb,4,none⟩ (.slice A q'.length (cap - 1)))=t at*;have HSG:=Q0 (gU.out t n NU);have HLG:Hid (og E { g2 with rv:=.slice A q'.length (cap - 1),rs:=g2.rs.set j { l with qR:=.act,st:=true },q:=q' } (some j)):=by
    have h:=HLP.out;exact ⟨h.mem,h.inj,h.his,h.fin,h.non,h.act,h.yR,h.bS,h.nS,h.sS,h.vR,h.WR⟩
   have hnk:w.heap.size≠f.kb:=by have:=H.out.kb.lt;omega
   have OU:=Q0 (WV.out.on n hnk);have aY:=Q0 n;have HZK:Hid (t.heap.size=wr.heap.size):=Q0 n.size;have MS:=Q0 (NW.out.trans (n.below (by exact p.out.FR _ _ p.out.BR)));have HCC:=Q0 (c87 f E I.out _ j { l with qR:=.act,st:=true } t HSG.out HLG.out (xh W.out));clear n NU d4 f4 hcell'
   go_wp2_with fail
   refine HCC.out.mono ?_;rintro e L ⟨rfl,J,F⟩;have HLT:Hid (Cg J<Cg g2):=by have h1:=F.Cg;have h2:=a1U.out;show _<_;omega
   have HS7:=Q0 F.vT;have HL7:=Q0 F.YV;have dY:Hid (∃ b,J.rs[i]?=some b/\b.k=x.k):=by
    obtain ⟨b,h1,h2⟩:=HXI.out;obtain ⟨R,h3,h4⟩:∃ R,(g2.rs.set j { l with qR:=.act,st:=true })[i]?=some R/\R.k=b.k:=by
     obtain ⟨z,hz,⟨rfl,rfl⟩ | ⟨rfl,_⟩⟩:=Za (x':={ l with qR:=.act,st:=true }) W.out h1
     · have:=W.out
       rw [show g2.rs[(_:It).i]?=_ from h1] at this;obtain rfl:=j6 this;exact ⟨_,hz,rfl⟩
     exact ⟨z,hz,rfl⟩
    obtain ⟨y4,h5,h6⟩:=F.ext i R h3;exact ⟨y4,h5,h6.trans (h4.trans h2)⟩
   have eY:=F.kp w.heap.size OU.out.lt lT.out;have gY:Hid (∀ k,k<w.heap.size->g.ow k=none->L.heap[k]?=w.heap[k]?/\J.ow k=none):=fun k C e=>by
    obtain ⟨q1,q2⟩:=kT.out k C e;have h:=F.kp k (by rw [HZK.out];have:=WV.out.lt;omega) q2;exact ⟨h.1.trans ((aY.out.block k (fun c=>by rw [c,p.out.BR] at q2;cases q2)).trans q1),h.2⟩
   have iY:=Q0 (eY.1.trans OU.out);have jY:=Q0 eY.2;have HB7:=Q0 (MS.out.trans F.bl);clear F eY HCC;go_wp2
   go_roundg (Cg J)
   case measure=>exact HLT.out
   case rel=>exact ⟨J,HS7.out,HL7.out,dY.out,iY.out,jY.out,gY.out,HB7.out,rfl⟩
  | re j r b7 b5=>
   have kY:Hid (Zy E (tn l.k.m l.ls) r):=Q0 (hre j r b7 b5 rfl);have hcell':wr.cell? ⟨ga,off,none⟩=some (.func (.func 121) #[] #[.pointer (some ⟨b7,0,none⟩),.pointer (some ⟨b5,0,none⟩)]):=hcell;clear hcell hgo hre
   go_upto_region 8 with fail
   have n:=I6 wr f.kb 4 (.slice A q'.length (cap - 1));have NU:Cl (wr.setCell ⟨f.kb,4,none⟩ (.slice A q'.length (cap - 1))) f.kb 98 (M_ f (.slice A q'.length (cap - 1))):=p.out.kb.set 4 (.slice A q'.length (cap - 1));generalize (wr.setCell ⟨f.kb,4,none⟩ (.slice A q'.length (cap - 1)))=t at*;have HSG:=Q0 (gU.out t n NU);have HLG:Hid (og E { g2 with rv:=.slice A q'.length (cap - 1),rs:=g2.rs.set j { l with qR:=.act,st:=true },q:=q' } (some j)):=by
    have h:=HLP.out;exact ⟨h.mem,h.inj,h.his,h.fin,h.non,h.act,h.yR,h.bS,h.nS,h.sS,h.vR,h.WR⟩
   have hnk:w.heap.size≠f.kb:=by have:=H.out.kb.lt;omega
   have OU:=Q0 (WV.out.on n hnk);have aY:=Q0 n;have HZK:Hid (t.heap.size=wr.heap.size):=Q0 n.size;have MS:=Q0 (NW.out.trans (n.below (by exact p.out.FR _ _ p.out.BR)));have h75:=HIT.out;have HCC:=Q0 (gP f E I.out _ j { l with qR:=.act,st:=true } r b7 b5 t HSG.out HLG.out (xh W.out) kY.out (by
    have:=h75.1.1.on n (fun e=>by have:=h75.2.1;rw [e,p.out.BR] at this;cases this);rw [show g2.ks.getD j Kj=l.k from hkx] at this;exact this) (h75.1.2.on n (fun e=>by have:=h75.2.2;rw [e,p.out.BR] at this;cases this)))
   clear h75 hkx;clear n NU d4 f4 hcell'
   go_wp2_with fail
   refine HCC.out.mono ?_;rintro e L ⟨rfl,J,F,a1V⟩;have HLT:Hid (Cg J<Cg g2):=by have h2:=zV.out.1;show _<_;exact D7 a1V h2
   have HS7:=Q0 F.vT;have HL7:=Q0 F.YV;have dY:Hid (∃ b,J.rs[i]?=some b/\b.k=x.k):=by
    obtain ⟨b,h1,h2⟩:=HXI.out;obtain ⟨R,h3,h4⟩:∃ R,(g2.rs.set j { l with qR:=.act,st:=true })[i]?=some R/\R.k=b.k:=by
     obtain ⟨z,hz,⟨rfl,rfl⟩ | ⟨rfl,_⟩⟩:=Za (x':={ l with qR:=.act,st:=true }) W.out h1
     · have:=W.out
       rw [show g2.rs[(_:It).i]?=_ from h1] at this;obtain rfl:=j6 this;exact ⟨_,hz,rfl⟩
     exact ⟨z,hz,rfl⟩
    obtain ⟨y4,h5,h6⟩:=F.ext i R h3;exact ⟨y4,h5,h6.trans (h4.trans h2)⟩
   have eY:=F.kp w.heap.size OU.out.lt lT.out;have gY:Hid (∀ k,k<w.heap.size->g.ow k=none->L.heap[k]?=w.heap[k]?/\J.ow k=none):=fun k C e=>by
    obtain ⟨q1,q2⟩:=kT.out k C e;have h:=F.kp k (by rw [HZK.out];have:=WV.out.lt;omega) q2;exact ⟨h.1.trans ((aY.out.block k (fun c=>by rw [c,p.out.BR] at q2;cases q2)).trans q1),h.2⟩
   have iY:=Q0 (eY.1.trans OU.out);have jY:=Q0 eY.2;have HB7:=Q0 (MS.out.trans F.bl);clear F eY HCC;go_wp2
   go_roundg (Cg J)
   case measure=>exact HLT.out
   case rel=>exact ⟨J,HS7.out,HL7.out,dY.out,iY.out,jY.out,gY.out,HB7.out,rfl⟩
variable {f:Fx} {E:Env} {b2:Nat} {pre:List De} {N:List ByteArray} {v:Value} {W W':World}
structure gM (f:Fx) (E:Env) (J:List De->Gh->World->Prop):Prop where
 st:∀ pre g W,J pre g W->Ab f g W/\og E g none/\g.q=[]
 mv:∀ pre g W g' W',J pre g W->Ab f g' W'->og E g' none->g'.q=[]->W.heap.size<=W'.heap.size->Below f.base W W'->(∀ k,k<W.heap.size->g.ow k=none->(∀ cur fz,W.heap[k]?≠some (.cells cur 9 fz))->W'.heap[k]?=W.heap[k]?)->(∀ k,k<W.heap.size->g.ow k=none->g'.ow k=none)->J pre g' W'
structure bz (f:Fx) (J:List De->Gh->World->Prop) (b2:Nat) (pre:List De) (N:List ByteArray) (v:Value) (g:Gh) (W:World):Prop where
 j:J pre g W
 c2:Cl W b2 87 [.func (.func 22) #[.pointer (some ⟨f.kb,0,none⟩)] #[]]
 o2:g.ow b2=none
 rn:W.ownsRow f.base 9 1 v N.length (We N)
 on:∀ k,v.ownBlock=some k->g.ow k=none
theorem bz.mv {J:List De->Gh->World->Prop} (m:gM f E J) {g g':Gh} (h:bz f J b2 pre N v g W) (c:Ab f g' W') (i:og E g' none) (d:g'.q=[]) (b:W.heap.size<=W'.heap.size) (l:Below f.base W W') (a:∀ k,k<W.heap.size->g.ow k=none->W'.heap[k]?=W.heap[k]?/\g'.ow k=none):bz f J b2 pre N v g' W':=
 ⟨m.mv _ _ _ _ _ h.j c i d b l (fun k h e _=>(a k h e).1) (fun k h e=>(a k h e).2),(a _ h.c2.lt h.o2).1.trans h.c2,(a _ h.c2.lt h.o2).2,Z0 h.rn fun k e=>(a k (h.rn.lt k e).2 (h.on k e)).1,fun k e=>(a k (h.rn.lt k e).2 (h.on k e)).2⟩
theorem bz.grow {J:List De->Gh->World->Prop} (i:gM f E J) {g:Gh} (h:bz f J b2 pre N v g W) (b:Below W.heap.size W W'):bz f J b2 pre N v { g with ow:=U8 g.ow W.heap.size } W':=by
 obtain ⟨c,a,l⟩:=i.st _ _ _ h.j;exact h.mv i ((c.U8 _ P9).grow b) ⟨a.mem,a.inj,a.his,a.fin,a.non,a.act,a.yR,a.bS,a.nS,a.sS,a.vR,a.WR⟩ l b.size (b.mono c.sz) (fun k d e=>⟨b.block k d,by show U8 g.ow W.heap.size k=none;rw [Q5 d];exact e⟩)
theorem aQ (f:Fx) (E:Env) (hf:BD f E) (J:List De->Gh->World->Prop) (p:gM f E J) (b2:Nat) (pre:List De) (N:List ByteArray) (nb A I i:Nat) (n:ByteArray) (g:Gh) (w:World) (u0 u1 u3 u6 u7 u8 u9 u10 u11 u12 u13 u14 u15 u16 u17 u18 u19 u20 u21 u22 u23 u24 u25 u26 u27 u28 u29 u30 u31 u32 u33 u34 u35 u36 u37 u38 u39 u40 u41 u42 u43 u44 u45 u46 u47:Value) {Q:Exit->Act->World->Prop} (hQ:∀ c (a:Act) (d:Option Tmp) (v:Value) w,Q (.panic c) (a.put d v) w->Q (.panic c) a w) (I0:Hid (bz f J b2 pre N (.slice (some ⟨nb,A,none⟩) N.length I) g w)) (C:i<N.length) (hN:N.length<=1000) (F:Hid (N.getD i ⟨#[]⟩=n)) (hok:J2 n.data.toList=true)
 (ZV:∀ (t18 t19 t20 t21 t22 t23 t24 t25 t26:Value) (d:Dd) (la:Option Addr) (c B6:Nat) (g':Gh) (w':World),bz f J b2 pre N (.slice (some ⟨nb,A,none⟩) N.length I) g' w'->Xc E n d->w'.ownsRow w.heap.size 52 4 (.slice la d.ls.length c) d.ls.length (R4 d.ls)->(∀ k,(Value.slice la d.ls.length c).ownBlock=some k->g'.ow k=none)->Cl w' B6 50 (De.vs ⟨d,.slice la d.ls.length c⟩)->g'.ow B6=none->w.heap.size<=w'.heap.size->Below f.base w w'->Q .normal { tmps:=#[u0,u1,.pointer (some ⟨b2,0,none⟩),u3,.slice (some ⟨nb,A,none⟩) N.length I,.int .i64 (i:Int),.pointer (some ⟨B6,0,none⟩),.string d.wt,u8,u9,u10,u11,u12,u13,u14,u15,u16,u17,t18,t19,t20,t21,t22,t23,t24,t25,t26,u27,u28,u29,u30,u31,u32,u33,u34,u35,u36,u37,u38,u39,u40,u41,u42,u43,u44,u45,u46,u47],defers:=[] } w'):
 (Code.region 4 #[⟨some 19,.load 87 (.tmp 2),87, "l4_want.go:125",#[],none⟩,⟨some 20,.move (.tmp 4),79, "l4_want.go:125",#[],none⟩,⟨some 21,.move (.tmp 5),3, "l4_want.go:125",#[],none⟩,⟨some 22,.indexAddr 79 (.tmp 20) (.tmp 21),0, "l4_want.go:125",#[⟨1,.data⟩,⟨2,.data⟩],none⟩,⟨some 23,.load 9 (.tmp 22),9, "l4_want.go:125",#[⟨3,.data⟩],none⟩,⟨some 24,.call ⟨.value (.tmp 19),#[.tmp 23],#[9]⟩,65, "l4_want.go:125",#[⟨0,.data⟩,⟨4,.data⟩],none⟩,⟨some 18,.move (.tmp 24),65, "l4_want.go:125",#[⟨5,.data⟩],none⟩,⟨some 25,.extract (.tmp 18) 0,50, "l4_want.go:125",#[⟨6,.data⟩],none⟩,⟨some 26,.extract (.tmp 18) 1,9, "l4_want.go:125",#[⟨6,.data⟩,⟨10,.gcOnly .lateStores⟩],none⟩,⟨some 6,.alloc 50,0, "l4_want.go:125",#[],none⟩,⟨none,.store 50 (.tmp 6) (.tmp 25),0, "l4_want.go:125",#[⟨9,.data⟩,⟨7,.data⟩,⟨5,.chain⟩,⟨0,.phase⟩,⟨1,.phase⟩,⟨2,.phase⟩,⟨3,.phase⟩,⟨4,.phase⟩,⟨5,.phase⟩,⟨6,.phase⟩,⟨7,.phase⟩,⟨8,.textOnly .lateStores⟩,⟨9,.phase⟩],none⟩,⟨some 7,.assign (.tmp 26),9, "l4_want.go:125",#[⟨8,.data⟩,⟨10,.chain⟩,⟨0,.phase⟩,⟨1,.phase⟩,⟨2,.phase⟩,⟨3,.phase⟩,⟨4,.phase⟩,⟨5,.phase⟩,⟨6,.phase⟩,⟨7,.phase⟩,⟨8,.phase⟩,⟨9,.phase⟩,⟨10,.phase⟩],none⟩] true).wp prog Q { tmps:=#[u0,u1,.pointer (some ⟨b2,0,none⟩),u3,.slice (some ⟨nb,A,none⟩) N.length I,.int .i64 (i:Int),u6,u7,u8,u9,u10,u11,u12,u13,u14,u15,u16,u17,u18,u19,u20,u21,u22,u23,u24,u25,u26,u27,u28,u29,u30,u31,u32,u33,u34,u35,u36,u37,u38,u39,u40,u41,u42,u43,u44,u45,u46,u47],defers:=[] } w:=by
 refine F7 (S:=fun u=>u.cell? ⟨nb,A+i,none⟩=some (.string n)/\u.cell? ⟨b2,0,none⟩=some (.func (.func 22) #[.pointer (some ⟨f.kb,0,none⟩)] #[])) U2 ?_ fun b=>?_
 · rw [<- F.out];exact ⟨(Yc I0.out.rn C).1,I0.out.c2.cell 0⟩
 obtain ⟨l,L⟩:∃ x:World,x=w.drew:=⟨_,rfl⟩;rw [<- L] at b ⊢;have y:Hid (bz f J b2 pre N (.slice (some ⟨nb,A,none⟩) N.length I) { g with ow:=U8 g.ow w.heap.size } l):=Q0 (I0.out.grow p (by rw [L];exact (F4 _ w).drew));have zxa:l.heap.size<=w.heap.size:=by rw [L];exact Q6 _
 have zxb:w.heap.size<=l.heap.size:=by rw [L];exact Q6 _
 have lY:Below f.base w l:=by rw [L];exact (F4 _ w).drew
 clear L;refine tq 0 b ?_ (v:=?_) (hv:=?e)
 case e=>intro wq hSw;(try dsimp only at hSw);obtain ⟨s1,s2⟩:=hSw;go_simp;try with_reducible rfl
 refine tq 1 b ?_;refine tq 2 b ?_;refine tq 3 b ?_;refine tq 4 b ?_ (v:=?_) (hv:=?e)
 case e=>intro wq hSw;(try dsimp only at hSw);obtain ⟨s1,s2⟩:=hSw;go_simp;try with_reducible rfl
 try simp only [qq]
 refine Ma (rs:=[5,9]) U2 X0 (x8 (o:=⟨some 24,.call ⟨.value (.tmp 19),#[.tmp 23],#[9]⟩,65,_,_,none⟩) rfl (fun K m=>?_) (x8 (o:=⟨some 6,.alloc 50,0,_,_,none⟩) rfl (fun K m=>?_) Ra))
 · go_simp
   refine (yP f E hf { g with ow:=U8 g.ow w.heap.size } n l (p.st _ _ _ y.out.j).1 (p.st _ _ _ y.out.j).2.1 (p.st _ _ _ y.out.j).2.2 hok).mono ?_;rintro e q ⟨d,la,c,rfl,V,U,r,g1,O,R,P,t,hv⟩;have s:=Q0 (y.out.mv p O R P r.size r t);have HR1:=Q0 U;have HD:=Q0 V;have HV:=Q0 hv;have L1:=lY.trans r;have z1:=Z4 zxb r.size;clear O R P t U V hv r;go_simp;clear b;refine m.out _ _ ?_ fun b=>?_
   · rw [<- F.out];exact ⟨(Yc s.out.rn C).1,s.out.c2.cell 0⟩
   clear m K;refine tq 6 b ?_;refine tq 7 b ?_;refine I4 8 b ?_;refine rq 9 fun K m=>?_;go_simp;obtain ⟨z,Y⟩:∃ x:World,x=q.alloc (.cells #[.string ⟨#[]⟩,.bool false,.string ⟨#[]⟩,.string ⟨#[]⟩,.string ⟨#[]⟩,.slice none 0 0,.int .i64 0,.string ⟨#[]⟩] 50):=⟨_,rfl⟩;rw [<- Y];have B2:Below q.heap.size q z:=by rw [Y];exact bA
   have C6:Hid (Cl z q.heap.size 50 [.string ⟨#[]⟩,.bool false,.string ⟨#[]⟩,.string ⟨#[]⟩,.string ⟨#[]⟩,.slice none 0 0,.int .i64 0,.string ⟨#[]⟩]):=by show Cl _ _ _ _;rw [Y];exact U1 q _ 50
   have X:=Q0 (s.out.grow p B2);clear Y;clear b;refine Z6 m ?_ fun b=>?_
   · rw [<- F.out];exact ⟨(Yc X.out.rn C).1,X.out.c2.cell 0⟩
   clear m K;refine rq 10 fun K m=>?_;refine qh rfl 50 _ _ rfl (B:=q.heap.size) (j:=0) rfl (vs:=(De.vs ⟨d,.slice la d.ls.length c⟩)) rfl C6.out (by simp [De.vs]) (Uu _ rfl) U2 ?_;intro H W ho;have B3:=B2.trans (ho.below P9);have D:=Q0 (s.out.grow p B3);have C6':Hid (Cl H q.heap.size 50 (De.vs ⟨d,.slice la d.ls.length c⟩)):=Q0 W;have HR3:=Q0 (ownsRow_below HR1.out B3);clear W ho;clear b;refine m.out _ _ ?_ fun b=>?_
   · rw [<- F.out];exact ⟨(Yc D.out.rn C).1,D.out.c2.cell 0⟩
   clear m K;refine I4 11 b ?_;refine a_ ?_;exact ZV _ _ _ _ _ _ _ _ _ d la c _ _ _ D.out HD.out (D5 HR3.out O0) (fun k e=>by show U8 g1.ow q.heap.size k=none;rw [Q5 (HR1.out.lt k e).2];exact HV.out k e) C6'.out (Q9 P9) (Z4 z1 B3.size) (L1.trans (B3.mono (by have:=(p.st _ _ _ I0.out.j).1.sz;omega)))
 go_simp;obtain ⟨q,Z⟩:∃ x:World,x=l.alloc (.cells #[.string ⟨#[]⟩,.bool false,.string ⟨#[]⟩,.string ⟨#[]⟩,.string ⟨#[]⟩,.slice none 0 0,.int .i64 0,.string ⟨#[]⟩] 50):=⟨_,rfl⟩;rw [<- Z];have B1:Below l.heap.size l q:=by rw [Z];exact bA
 have C6:Hid (Cl q l.heap.size 50 [.string ⟨#[]⟩,.bool false,.string ⟨#[]⟩,.string ⟨#[]⟩,.string ⟨#[]⟩,.slice none 0 0,.int .i64 0,.string ⟨#[]⟩]):=by show Cl _ _ _ _;rw [Z];exact U1 l _ 50
 have s:=Q0 (y.out.grow p B1);have QS:l.heap.size<q.heap.size:=C6.out.lt;clear Z;clear b;refine Z6 m ?_ fun b=>?_
 · rw [<- F.out];exact ⟨(Yc s.out.rn C).1,s.out.c2.cell 0⟩
 clear m K;refine rq 5 fun K m=>?_;go_simp;refine (yP f E hf _ n q (p.st _ _ _ s.out.j).1 (p.st _ _ _ s.out.j).2.1 (p.st _ _ _ s.out.j).2.2 hok).mono ?_;rintro e z ⟨d,la,c,rfl,V,U,r,g1,O,R,P,t,hv⟩;have X:=Q0 (s.out.mv p O R P r.size r t);have h6:=t l.heap.size QS (Q9 P9);have wT:Hid (Cl z l.heap.size 50 [.string ⟨#[]⟩,.bool false,.string ⟨#[]⟩,.string ⟨#[]⟩,.string ⟨#[]⟩,.slice none 0 0,.int .i64 0,.string ⟨#[]⟩]):=Q0 (h6.1.trans C6.out);have HK0:Hid (∀ k,k<l.heap.size->U8 g.ow w.heap.size k=none->z.heap[k]?=l.heap[k]?/\g1.ow k=none):=fun k hk' e=>by
  have h:=t k O0 (by show U8 (U8 g.ow w.heap.size) l.heap.size k=none;rw [Q5 hk'];exact e);exact ⟨h.1.trans (B1.block k hk'),h.2⟩
 have HR2:=Q0 U;have HD:=Q0 V;have HV:=Q0 hv;have HS:=Q0 O;have HLL:=Q0 R;have HQQ:=Q0 P;have mY:=Q0 h6.2;have L2:=lY.trans ((B1.mono (by have:=(p.st _ _ _ y.out.j).1.sz;omega)).trans r);have z2:q.heap.size<=z.heap.size:=r.size;have a1W:=Q0 r;clear O R P t U V hv r h6;go_simp;clear b;refine m.out _ _ ?_ fun b=>?_
 · rw [<- F.out];exact ⟨(Yc X.out.rn C).1,X.out.c2.cell 0⟩
 clear m K;refine tq 6 b ?_;refine tq 7 b ?_;refine I4 8 b ?_;refine rq 10 fun K m=>?_;refine qh rfl 50 _ _ rfl (B:=l.heap.size) (j:=0) rfl (vs:=(De.vs ⟨d,.slice la d.ls.length c⟩)) rfl wT.out (by simp [De.vs]) (Uu _ rfl) U2 ?_;intro H W ho;have hbb:=(p.st _ _ _ y.out.j).1.sz;have hbo:=ho.below hbb;have D:Hid (bz f J b2 pre N (.slice (some ⟨nb,A,none⟩) N.length I) g1 H):=Q0 (y.out.mv p (HS.out.same HQQ.out (HS.out.bl.trans hbo) (fun k o e=>ho.block k (fun c=>by rw [c,mY.out] at e;cases e))) HLL.out HQQ.out (by rw [ho.size];omega) ((B1.mono hbb).trans (a1W.out.trans hbo)) (fun k t e=>⟨(ho.block k O0).trans (HK0.out k t e).1,(HK0.out k t e).2⟩));have C6':Hid (Cl H l.heap.size 50 (De.vs ⟨d,.slice la d.ls.length c⟩)):=Q0 W;have HR3:Hid (H.ownsRow w.heap.size 52 4 (.slice la d.ls.length c) d.ls.length (R4 d.ls)):=Q0 (D5 (Z0 HR2.out fun k e=>ho.block k (by have:=(HR2.out.lt k e).1;omega)) O0);have z3:H.heap.size=z.heap.size:=ho.size;have L3:=L2.trans hbo;clear W ho;clear b;refine m.out _ _ ?_ fun b=>?_
 · rw [<- F.out];exact ⟨(Yc D.out.rn C).1,D.out.c2.cell 0⟩
 clear m K;refine I4 11 b ?_;refine a_ ?_;exact ZV _ _ _ _ _ _ _ _ _ d la c _ _ _ D.out HD.out HR3.out HV.out C6'.out mY.out O0 L3
end Go.Proofs.YtdjaajjndfbpmaaGreatDoor
namespace Go.Proofs.YtdjaajjndfbpmaaGreatDoor
open Go.RowKit
theorem LQ (x:De) (B6 l m:Nat) (w:World) (u1 u2 u3 u4 u5 u7 u8 u9 u10 u11 u12 u13 u14 u15 u16 u17 u18 u19 u20 u21 u22 u23 u24 u25 u26 u27 u28 u29 u30 u31 u32 u33 u34 u35 u36 u37 u38 u39 u40 u41 u42 u43 u44 u45 u46 u47:Value) {Q:Exit->Act->World->Prop} {R:World->Prop} (a:Cl w B6 50 x.vs) (k:YieldAt Fence.wide m Tryz.prog l #[.agg x.vs.toArray] w fun e W'=>e=.returned (.bool true)/\R W')
 (hK:∀ (h g f:Value) W',R W'->Q .normal { tmps:=#[.func (.yield l) #[] #[],u1,u2,u3,u4,u5,.pointer (some ⟨B6,0,none⟩),u7,u8,u9,u10,u11,u12,u13,u14,u15,u16,u17,u18,u19,u20,u21,u22,u23,u24,u25,u26,u27,u28,u29,u30,u31,u32,u33,u34,u35,u36,u37,u38,u39,u40,u41,u42,u43,h,g,f,.bool false],defers:=[] } W'):
 (Code.region 11 #[⟨some 44,.move (.tmp 0),134, "l4_want.go:131",#[],none⟩,⟨some 45,.load 50 (.tmp 6),50, "l4_want.go:131",#[],none⟩,⟨some 46,.call ⟨.value (.tmp 44),#[.tmp 45],#[50]⟩,4, "l4_want.go:131",#[⟨0,.data⟩,⟨1,.data⟩],none⟩,⟨some 47,.unOp .not 4 (.tmp 46),4, "l4_want.go:131",#[⟨2,.data⟩],none⟩] false).wp Tryz.prog Q { tmps:=#[.func (.yield l) #[] #[],u1,u2,u3,u4,u5,.pointer (some ⟨B6,0,none⟩),u7,u8,u9,u10,u11,u12,u13,u14,u15,u16,u17,u18,u19,u20,u21,u22,u23,u24,u25,u26,u27,u28,u29,u30,u31,u32,u33,u34,u35,u36,u37,u38,u39,u40,u41,u42,u43,u44,u45,u46,u47],defers:=[] } w:=by
 obtain ⟨⟨n,md,⟨d,c,b⟩,ls,⟨rc,rt⟩,wt⟩,lv⟩:=x;have h0:w.cell? ⟨B6,0,none⟩=some (.string n):=a.cell 0;have h1:w.cell? ⟨B6,1,none⟩=some (.bool md):=a.cell 1;have h2:w.cell? ⟨B6,2,none⟩=some (.string d):=a.cell 2;have h3:w.cell? ⟨B6,3,none⟩=some (.string c):=a.cell 3;have h4:w.cell? ⟨B6,4,none⟩=some (.string b):=a.cell 4;have h5:w.cell? ⟨B6,5,none⟩=some lv:=a.cell 5;have h6:w.cell? ⟨B6,6,none⟩=some (.int .i64 rc):=a.cell 6;have h7:w.cell? ⟨B6,7,none⟩=some (.string rt):=a.cell 7;obtain ⟨fn,tmps,assign,body,i,o⟩:=k;rw [show (De.vs ⟨⟨n,md,⟨d,c,b⟩,ls,⟨rc,rt⟩,wt⟩,lv⟩).toArray=#[.string n,.bool md,.string d,.string c,.string b,lv,.int .i64 rc,.string rt] from rfl] at i;clear a;refine (wpIn_wide (n:=m+1)).1 ?_
 gi_wp2
 refine o.mono ?_;rintro e W3 ⟨rfl,j⟩
 gi_wp2
 exact j
end Go.Proofs.YtdjaajjndfbpmaaGreatDoor
