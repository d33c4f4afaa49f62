import Derived.Test.YtdgneicbmalnpaaGreatDoorMB
import Derived.Test.YtdgneicbmalnpaaGreatDoortW4
set_option linter.all false
set_option maxHeartbeats 0
set_option maxRecDepth 99999
open Go.Value renaming slice->Sa,string->Sb,int->Sc,pointer->Sd
open Go.IntKind renaming i64->Se
open Go.Ending renaming returned->Sf
open Go.Obj renaming cells->Sg
namespace Go.Proofs.YtdgneicbmalnpaaGreatDoor
open Proofs.Tryz Go.RowKit Go.Maps
variable{E w':World}{W c:Int}{t:BY}{ls:List L4}{B H bP bR bT base n:Nat}{m:M3}{ts:LB}{rs:List R3}
theorem But.a2T{b:Nat}{w:World}(h:w.grownBy w' (some b)):But b w w':=⟨h.os,h.tape,h.output,h.size,λk hk a=>h.block k hk (λe=>a (C_ e))⟩
theorem a2V(w:World)(x y:Value)(t:TypeId):∀j u,[x,y][j]?=some u->(w.alloc (Sg #[x,y] t)).cell? ((⟨w.heap.size,0,none⟩:Addr).add j)=some u:=by
 intro j u h;rw[Jl,Y8];exact X9 w [x,y] t j u h
theorem a0f(c:Int)(s a:BY)(w:World)(hf:KC c s=a)(hs:s.size<=1048700):Calls prog 307 #[.agg #[Sc Se c,Sb s]] w λe w'=>e=Sf (Sb a)/\Bw w w':=by
 subst hf;exact uQ c s w hs
theorem a3F(s:BY)(n:Int)(a:BY)(w:World)(hm:Y6 s n=a)(hs:s.size<=1048700):Calls prog 215 #[Sb s,Sc Se n] w λe w'=>e=Sf (Sb a)/\Bw w w':=by
 subst hm;exact uJ s n w hs
theorem xX(h:vr c t.data.toList=true):t.size<=300:=by
 rcases Z7 300 t.data.toList.length with h1|h1
 ·rw[rF h1]at h;cases h
 simpa using h1
theorem Lr(c:Int)(t:BY):(KC c t).size<=t.size+2:=by
 have e:t.data.toList.length=t.size:=Uy;unfold KC;rw[I5];unfold b_;split
 ·simp only[f_];omega
 simp only[Fb];omega
theorem a0z(h:Ig ls):∀r∈F_ ls,vr r.1 r.2.data.toList=true:=by
 have h2:∀x∈ls,Ri x:=λx hx=>by
  obtain⟨i,b,e⟩:=Qe hx;have:=h.2 i b
  rwa[show ls.getD i K_=x by simp[List.getD,V8 b,e]]at this
 clear h
 induction ls with
 | nil=>intro r hr;cases hr
 | cons x q ih=>
  intro r hr;have a:=ih (λy c=>h2 y (Ug _ c));unfold F_ at hr
  cases hx:x.has with
  | true=>rw[hx]at hr;exact a r hr
  | false=>
   rw[hx]at hr;rcases qf.1 hr with rfl|hr
   ·rcases(h2 x (Gt ..)).2 with⟨k,_⟩|⟨_,k⟩
    ·rw[hx]at k;cases k
    exact k
   exact a r hr
theorem DW{k:Nat}(h:k<(F_ ls).length+1):(Xm ls c t).take (k+1)=(Xm ls c t).take k++[KC ((F_ ls++[(c,t)]).getD k (0,ByteArray.empty)).1 ((F_ ls++[(c,t)]).getD k (0,ByteArray.empty)).2]:=by
 have hk:k<(Xm ls c t).length:=by simp[Xm];omega
 rw[Oq,V8 hk];have a:k<(F_ ls++[(c,t)]).length:=L8;simp only[Xm,qx,Option.toList_some];rw[show(F_ ls++[(c,t)]).getD k (0,ByteArray.empty)=(F_ ls++[(c,t)])[k] by simp only[List.getD,V8 a,Dc]]
theorem AP{b:OA}{i:Nat}{l:List (Int×ByteArray)}(h:E.ownsRow base 117 2 (Sa b n i) l.length (YC l))(d:l≠[]):∃g,b=some ⟨g,0,none⟩/\(g<E.heap.size/\base<=g)/\∀k,k<l.length->E.cell? ⟨g,k*2,none⟩=some (Sc Se (l.getD k (0,ByteArray.empty)).1)/\E.cell? ⟨g,k*2+1,none⟩=some (Sb (l.getD k (0,ByteArray.empty)).2):=by
 have a:=h;have c:∀(l:List (Int×ByteArray))(k:Nat),k<l.length->(YC l)[k*2]?=some (Sc Se (l.getD k (0,ByteArray.empty)).1)/\(YC l)[k*2+1]?=some (Sb (l.getD k (0,ByteArray.empty)).2):=by
  intro l
  induction l with
  | nil=>intro k hk;exact absurd hk (U8 _)
  | cons x r ih=>
   intro k hk
   cases k with
   | zero=>exact⟨rfl,rfl⟩
   | succ k=>
    have:=ih k (by simpa using hk);have e1:(k+1)*2=k*2+1+1:=O0;rw[e1];exact this
 rcases h.2 with⟨hv,h0⟩|⟨g,cap,cur,hv,f,e,_⟩
 ·exact absurd (Xb.1 h0) d
 simp only[Hu]at hv;obtain⟨rfl,rfl,rfl⟩:=hv;refine⟨g,rfl,⟨(Ya.1 e).1,f⟩,λk hk=>?_⟩;rw[a.cellAt (k*2) O0,a.cellAt (k*2+1) O0];exact c l k hk
def a6r(W:Int)(ts:LB)(fs:LB)(w w':World)(e:Ending):Prop:=
 (∃bF f ts',e=Sf (.tuple #[.map (some bF),.bool true])/\w.heap.size<=bF/\w'.ownsMap prog 9 h_ bF f.length (mapD f)/\Fr W (ts.map (gT W)) f ts'/\I8 W fs (ts,true)=(ts',true))\/
 (e=Sf (.tuple #[.map none,.bool false])/\(I8 W fs (ts,true)).2=false)
theorem cl3{u:World}{t:TypeId}{a b c:Value}(h:Cl u B t [a,b,c]):u.cell? ⟨B,0,none⟩=some a/\u.cell? ⟨B,1,none⟩=some b/\u.cell? ⟨B,2,none⟩=some c:=⟨h.cell 0,h.cell 1,h.cell 2⟩
theorem a5b(B H bT bR bP:Nat)(W:Int)(ts:LB)(rs:List R3)(rv:List Value)(ls:List L4)(c:Int)(t:BY)(a:OA)(cap:Nat)(w:World)(hSh:Sh B H bT bR bP W (ts.map (gT W)) rs rv w)(hW:1<=W/\W<=8)(hA:Ol W ts)(hok:Ig ls)(hv:vr c t.data.toList=true)(hl:ls.length<=1048576)(hat:O9 w a ls):
 Calls prog 266 #[Sd (some ⟨H,0,none⟩),Sa a ls.length cap,.agg #[Sc Se c,Sb t]] w λe w'=>a6r W ts (Xm ls c t) w w' e/\Bw w w':=by
 obtain⟨i0,hi,hz0,hz1,hz2⟩:=info_parts' jL;obtain⟨pl,hCC,hR⟩:=hSh;obtain⟨es,ck,hTw,hTF,hTs,hTD⟩:=hCC.tx;have hbT:=(Ya.1 hTw).1;have HLT:Hid (∀(u:World)(k:BY),k.size<=maxLen->u.heap[bT]?=some (.map es ck)->(Instr.lookup 290 (.map (some bT)) (Sb k) true).run prog u=.ok (.tuple #[(Y_ (ts.map (gT W)) k).getD (.agg #[Sb ⟨#[]⟩,Sc Se 0,Sb ⟨#[]⟩]),.bool (Y_ (ts.map (gT W)) k).isSome]) u):=λu k hk hu=>
  yE (n:=(ts.map (gT W)).length) ⟨es,ck,hu,hTF,hTs,hTD⟩ underlying290 Y0 hk
 have HVR:Hid (∀k,k<(F_ ls++[(c,t)]).length->vr ((F_ ls++[(c,t)]).getD k (0,ByteArray.empty)).1 ((F_ ls++[(c,t)]).getD k (0,ByteArray.empty)).2.data.toList=true):=λk hk=>by
  have e:(F_ ls++[(c,t)]).getD k (0,ByteArray.empty)=(F_ ls++[(c,t)])[k]:=by simp only[List.getD,V8 hk,Dc]
  rw[e];rcases Ph.1 (dh hk)with h|h
  ·exact a0z hok _ h
  rw[Zj.1 h];exact hv
 have HAS:=U0 hA;have HWD:=U0 hW;have a7s:=hCC.lt;have hll:=hok.1;have hml:=aC ls;have hmm:=@run_makeMap prog;have HM1:Hid ((F_ ls).length+1<=maxLen):=by show _<=_;unfold maxLen;omega
 have HM2:Hid (((F_ ls).length+1)*24<=140737488355328):=by show _<=_;omega
 have s0:(w.alloc (Sg #[Sc Se c,Sb t] 117)).heap.size=w.heap.size+1:=J4;have s1:((w.alloc (Sg #[Sc Se c,Sb t] 117)).alloc (.map #[] 0)).heap.size=w.heap.size+2:=J4;have BU:Bw w ((w.alloc (Sg #[Sc Se c,Sb t] 117)).alloc (.map #[] 0)):=U6.alloc J4 _;have HLK:=U0 (Q7 hat BU);have M0:=World.ownsMap_made (w.alloc (Sg #[Sc Se c,Sb t] 117)) prog 9 h_;rw[s0]at M0;have MU:Hid (((w.alloc (Sg #[Sc Se c,Sb t] 117)).alloc (.map #[] 0)).ownsMap prog 9 h_ (w.heap.size+1) ([]:List (ByteArray×Value)).length (mapD [])):=M0;have e0:((w.alloc (Sg #[Sc Se c,Sb t] 117)).alloc (.map #[] 0)).cell? ⟨w.heap.size,0,none⟩=some (Sc Se c):=by simp[go_sem]
 have e1:((w.alloc (Sg #[Sc Se c,Sb t] 117)).alloc (.map #[] 0)).cell? ⟨w.heap.size,1,none⟩=some (Sb t):=by simp[go_sem]
 clear hat M0 hA hW hok hv hTF hTs hTD
 go_in
 go_wp2_with fail
 rename_i K0 hK0;generalize ((w.alloc (Sg #[Sc Se c,Sb t] 117)).alloc (.map #[] 0))=x at*;have TAIL:∀(va:Value)(q:Nat)(N:OA)(L:Nat)(E:World),Bw x E->Hid (E.ownsRow x.heap.size 117 2 (Sa N ((F_ ls).length+1) L) ((F_ ls).length+1) (YC (F_ ls)++[Sc Se c,Sb t]))->K0 { tmps:=#[Sd (some ⟨H,0,none⟩),Sa a ls.length cap,.agg #[Sc Se c,Sb t],undef,undef,Sd (some ⟨w.heap.size,0,none⟩),.map none,.bool false,.map (some (w.heap.size+1)),undef,undef,undef,undef,undef,undef,.map (some (w.heap.size+1)),Sa a ls.length cap,va,.agg #[Sc Se c,Sb t],Sa (some ⟨q,0,none⟩) 1 1,Sa N ((F_ ls).length+1) L,Sc Se ((F_ ls).length+1:Nat),Sc Se 0,undef,undef,undef,undef,undef,undef,undef,undef,undef,undef,undef,undef,undef,undef,undef,undef,undef,undef,undef,undef,undef,undef,undef,undef,undef,undef,undef,undef,undef,undef,undef,undef,undef,undef,undef,undef,undef,undef,undef,undef,undef,undef,undef,undef],defers:=[] } E:=by
  intro va q N L E hE I;have hEs:=hE.size;obtain⟨g,rfl,hgE,hgc⟩:=AP (l:=(F_ ls++[(c,t)])) (by rw[lD];simpa using I.o) J4;have HGC:=U0 hgc;have BWE:=BU.trans (hE.mono O0);have CE:=hCC.below BWE;have hE0:=CE.blk 0 _ rfl;have hE1:=CE.blk 1 _ rfl;have hTE:=(BWE.block bT hbT).trans hTw;have ME:=U0 (U9 MU.o hE O0);have hHZ:=a7s;have hgN:g≠w.heap.size+1:=O0;clear hgc I CE;refine hK0 _ _ ?_;clear hK0;go_wp2;go_loopw[22] (λi wr=>∃(k:Nat)(f:List (ByteArray×Value))(tk:List ByteArray),k<=(F_ ls).length+1/\i=Sc Se k/\Hid (wr.ownsMap prog 9 h_ (w.heap.size+1) f.length (mapD f))/\Hid (Fr W (ts.map (gT W)) f tk)/\Hid (I8 W ((Xm ls c t).take k) (ts,true)=(tk,true))/\f.length<=k/\But (w.heap.size+1) E wr) (λi _=>(F_ ls).length+1-(Go.RowKit.intOf i).toNat);exact⟨0,[],ts,Y4 _,rfl,ME,Fr.start HAS.o,rfl,Y7 _,But.refl _ _⟩;obtain⟨k,f,tk,hk,rfl,HMr,HFr,HPu,hfk,BTr⟩:=hrel;have szr:=BTr.size;by_cases hlt:k<(F_ ls).length+1
  ·have gk:=HGC.o k (by simpa using hlt);have g0:=(BTr.cell (p:=⟨g,k*2,none⟩) hgE.1 hgN).trans gk.1;have g1:=(BTr.cell (p:=⟨g,k*2+1,none⟩) hgE.1 hgN).trans gk.2;have HTK:=U0 (DW (c:=c) (t:=t) hlt);have hvr:=HVR.o k (by simpa using hlt);generalize ((F_ ls++[(c,t)])).getD k (0,ByteArray.empty)=r at*;clear gk;obtain⟨m,Z⟩:∃m,KC r.1 r.2=m:=⟨_,rfl⟩;have HFM:=U0 Z;have HVF:=U0 (Z▸a2Z hvr);have hr3:=xX hvr;have hr7:r.2.size<=1048700:=O0;have a8l:m.size<=1048700:=by rw[<- Z];have:=Lr r.1 r.2;omega
   rw[Z]at HTK;obtain⟨A,hsm⟩:∃A,Y6 m W=A:=⟨_,rfl⟩;have HSM:=U0 hsm;have HSZ:Hid (A.size<=maxLen):=by show _<=_;rw[<- hsm,Es HWD.o];have:=HWD.o;unfold maxLen;omega
   clear Z hsm;have BX0:Bw wr (wr.alloc (Sg #[Sc Se r.1,Sb r.2] 117)):=U6;have C0:=U0 (I4 wr [Sc Se r.1,Sb r.2] 117);have hx:wr.heap.size<(wr.alloc (Sg #[Sc Se r.1,Sb r.2] 117)).heap.size:=J4
   go_wp2_with fail
   generalize wr.alloc (Sg #[Sc Se r.1,Sb r.2] 117)=x0 at*;clear g0 g1;have J:Hid (∀u,Bw x0 u->u.cell? ⟨wr.heap.size,0,none⟩=some (Sc Se r.1)/\u.cell? ⟨wr.heap.size,1,none⟩=some (Sb r.2)):=λu hu=>⟨(hu.cell hx).trans (C0.o.cell 0),(hu.cell hx).trans (C0.o.cell 1)⟩
   go_cut[11] from 23 to 29 (λs wx=>∃B,s=Sd (some ⟨B,0,none⟩)/\x0.heap.size<=B/\Hid (Cl wx B 298 [Sb m,Sc Se r.1,Sb r.2])/\Hid (Bw x0 wx))
   case first=>
    have d:Bw x0 x0.drew:=(O4 _ _).drew;refine mG J d Y0 λhH=>?_;generalize x0.drew=y at*;refine y_ 0 ?_;refine y_ 2 ?_;refine wpAnyH_ready (rs:=[1,4]) Y0 J4 ?_;refine AllReadyH.cons (o:=⟨some 27,.call ⟨.value (.func 307),#[.tmp 26],#[117]⟩,9,_,_,none⟩) rfl (λK b=>?_) (AllReadyH.cons (o:=⟨some 11,.alloc 298,0,_,_,none⟩) rfl (λK b=>?_) AllReadyH.nil)
    ·go_simp;refine(a0f r.1 r.2 m _ HFM.o hr7).mono ?_;rintro e u0⟨rfl,U⟩
     replace d:=E5 d U
     clear U;go_simp;refine G9 b (J.o _ d) λhH=>?_;clear b K;refine sq ?_;refine rq 4 λK b=>?_;go_simp;have X:=U0 (I4 u0 [Sb ⟨#[]⟩,Sc Se 0,Sb ⟨#[]⟩] 298);have hA:=d.size
     replace d:=E5 d (U6 (w:=u0) (o:=Sg #[Sb ⟨#[]⟩,Sc Se 0,Sb ⟨#[]⟩] 298))
     refine G9 b (J.o _ d) λhH=>?_;clear b K;generalize u0.alloc (Sg #[Sb ⟨#[]⟩,Sc Se 0,Sb ⟨#[]⟩] 298)=ya at*;refine rq 5 λK b=>?_;refine qc rfl 298 _ _ rfl (j:=0) rfl rfl X.o A8 (X5 rfl) Y0 ?_;intro z cz oz
     replace d:=d.trans (oz.below hA)
     have CZ:=U0 cz;refine G9 b (J.o _ d) λhH=>?_;clear b K;refine wdn ?_
     go_wp2_with fail
     go_meet
     exact⟨_,rfl,hA,CZ,d⟩
    go_simp;have X:=U0 (I4 y [Sb ⟨#[]⟩,Sc Se 0,Sb ⟨#[]⟩] 298);have hA:=d.size
    replace d:=E5 d (U6 (w:=y) (o:=Sg #[Sb ⟨#[]⟩,Sc Se 0,Sb ⟨#[]⟩] 298))
    refine G9 b (J.o _ d) λhH=>?_;clear b K;generalize y.alloc (Sg #[Sb ⟨#[]⟩,Sc Se 0,Sb ⟨#[]⟩] 298)=ya at*;refine rq 1 λK b=>?_;go_simp;refine(a0f r.1 r.2 m _ HFM.o hr7).mono ?_;rintro e u0⟨rfl,U⟩
    replace d:=E5 d U
    replace X:=U0 (X.o.below U X.o.lt)
    clear U;go_simp;refine G9 b (J.o _ d) λhH=>?_;clear b K;refine sq ?_;refine rq 5 λK b=>?_;refine qc rfl 298 _ _ rfl (j:=0) rfl rfl X.o A8 (X5 rfl) Y0 ?_;intro z cz oz
    replace d:=d.trans (oz.below hA)
    have CZ:=U0 cz;refine G9 b (J.o _ d) λhH=>?_;clear b K;refine wdn ?_
    go_wp2_with fail
    go_meet
    exact⟨_,rfl,hA,CZ,d⟩
   obtain⟨B,rfl,hB,CB,BX⟩:=hcut;clear J;have BT3:=BTr.trans (But.of_below (BX0.trans (BX.o.mono (yw hx))));have M3:=U0 (U9 HMr.o (BX0.trans (BX.o.mono (yw hx))) O0);have h0:=(BT3.cell (p:=⟨H,0,none⟩) (show H<E.heap.size by omega) (show H≠w.heap.size+1 by omega)).trans hE0;have a0:=CB.o.cell 0;have hBz:=BX.o.size;clear BX C0
   go_wp2_with fail
   refine wp_region_held_drew (S:=(λu=>u.cell? ⟨B,0,none⟩=some (Sb m)/\u.cell? ⟨H,0,none⟩=some (Sc Se W))) Y0 ⟨a0,h0⟩ λhHeld=>?_
   iterate 6 refine sq ?_
   refine rq 6 λK b=>?_;go_simp;refine(a3F m W A _ HSM.o a8l).mono ?_;rintro e C⟨rfl,hb4⟩
   go_wp2_with fail
   have b4:Bw wc C:=((O4 _ _).drew).trans hb4;have s4:=b4.size;have hB4:=CB.o.lt;have V:=U0 (CB.o.below b4 hB4);have O:=BT3.trans (But.of_below b4);have M4:=U0 (U9 M3.o b4 O0);obtain⟨a1,a2,a3⟩:=cl3 V.o;have h1:=(O.cell (p:=⟨H,0,none⟩) (show H<E.heap.size by omega) (show H≠w.heap.size+1 by omega)).trans hE0;have h2:=(O.cell (p:=⟨H,1,none⟩) (show H<E.heap.size by omega) (show H≠w.heap.size+1 by omega)).trans hE1;have hT4:=(O.block bT O0 O0).trans hTE;clear hHeld hb4;refine G9 b ⟨a1,h1⟩ λhHeld=>?_;clear b K;refine sq ?_;refine wdn ?_;clear hHeld M3 BT3 a0 h0;have a7I:=BWE.trans (O.below O0 O0);have szZ:w.heap.size<=C.heap.size:=O0;have MET:∀v,(Y_ (ts.map (gT W)) A=some v\/Y_ f A=some v)->∃y,v=hV y/\((y=m/\Hid (I8 W ((Xm ls c t).take (k+1)) (ts,true)=(tk,true)))\/(¬y.toList=m.toList/\Hid ((I8 W (Xm ls c t) (ts,true)).2=false))):=λv hv=>by
    obtain⟨y,hvy,hput⟩:=HFr.o.met (W:=W) (t:=m) (by rw[HSM.o];exact hv);have h:I8 W ((Xm ls c t).take (k+1)) (ts,true)=(tk,decide (y=m)):=by
     rw[HTK.o,Gn,HPu.o];show((Zb W m tk).1,true&&(Zb W m tk).2)=_;rw[hput];rfl
    refine⟨y,hvy,?_⟩;by_cases hy:y=m
    ·rw[X_ hy]at h;exact .inl ⟨hy,h⟩
    rw[j_ hy]at h;refine .inr ⟨λe=>hy ((Nq y m).1 e),?_⟩;show(I8 _ _ _).2=false;rw[<- Zk (k+1) (Xm ls c t),Gn,h];exact dP _ _ _
   have Q:=HLT.o C A HSZ.o hT4
   cases hqm:Y_ (ts.map (gT W)) A with
   | some v=>
    rw[hqm]at Q;simp only[Dc,Option.isSome_some]at Q;obtain⟨y,rfl,⟨rfl,HP⟩|⟨hne,HN⟩⟩:=MET v (.inl hqm)
    ·rw[HVF.o]at Q;have d:Bw C (C.alloc (Sg #[Sb y,Sc Se r.1,Sb r.2] 298)):=U6;obtain⟨n0,n1,n2⟩:=cl3 (V.o.below d O0);go_wp2;go_roundw;exact⟨k+1,f,tk,O0,by go_num,U0 (U9 M4.o d O0),HFr,HP,O0,O.trans (But.of_below d)⟩;exact V9
    unfold hV at Q;have d:Bw C (C.alloc (Sg #[Sb y,Sc Se (hC y),Sb (hT y)] 298)):=U6;obtain⟨n0,n1,n2⟩:=cl3 (V.o.below d O0);go_wp2;go_ret2;exact⟨.inr ⟨rfl,HN.o⟩,a7I.trans (d.mono O0)⟩
   | none=>
    rw[hqm]at Q;simp only[Option.getD_none,Option.isSome_none]at Q;have b5:Bw C (C.alloc (Sg #[Sb ⟨#[]⟩,Sc Se 0,Sb ⟨#[]⟩] 298)):=U6;obtain⟨m0,m1,m2⟩:=cl3 (V.o.below b5 O0);have M5:=U0 (U9 M4.o b5 O0);have R:=yE (k:=A) (z:=.agg #[Sb ⟨#[]⟩,Sc Se 0,Sb ⟨#[]⟩]) M5.o underlying290 Y0 HSZ.o
    cases hqf:Y_ f A with
    | some v=>
     rw[hqf]at R;simp only[Dc,Option.isSome_some]at R;obtain⟨y,rfl,⟨rfl,HP⟩|⟨hne,HN⟩⟩:=MET v (.inr hqf)
     ·rw[HVF.o]at R;have d:Bw C (C.alloc (Sg #[Sb y,Sc Se r.1,Sb r.2] 298)):=U6;obtain⟨n0,n1,n2⟩:=cl3 (V.o.below d O0);go_wp2;go_roundw;exact⟨k+1,f,tk,O0,by go_num,U0 (U9 M4.o d O0),HFr,HP,O0,O.trans (But.of_below d)⟩;exact V9
     unfold hV at R;have d:Bw C (C.alloc (Sg #[Sb y,Sc Se (hC y),Sb (hT y)] 298)):=U6;obtain⟨n0,n1,n2⟩:=cl3 (V.o.below d O0);go_wp2;go_ret2;exact⟨.inr ⟨rfl,HN.o⟩,a7I.trans (d.mono O0)⟩
    | none=>
     rw[hqf]at R;simp only[Option.getD_none,Option.isSome_none]at R;have HFL:Hid (f.length<maxLen):=by show _<_;unfold maxLen;omega
     have HV2:Hid (h_ (.agg #[Sb m,Sc Se r.1,Sb r.2])=some (.held (hV m),[])):=by show h_ _=_;rw[HVF.o];rfl
     have HAD:=U0 (HFr.o.add (t:=m) (by rw[HSM.o];exact hqm) (by rw[HSM.o];exact hqf));have HP3:Hid (I8 W ((Xm ls c t).take (k+1)) (ts,true)=(Ym W m tk,true)):=by
      show I8 _ _ _=_;rw[HTK.o,Gn,HPu.o];show((Zb W m tk).1,true&&(Zb W m tk).2)=_;rw[HAD.o.1];rfl
     have HG:Hid (gT W m=(A,hV m)):=by show(Y6 m W,hV m)=_;rw[HSM.o]
     go_wp2_with(at_mapUpdate;refine wpList_mapUpdate_own _ rfl _ _ _ 290 rfl 9 298 Bz underlying290 h_ (w.heap.size+1) f.length (mapD f) rfl M5.o HFL.o _ _ (kS A) rfl rfl (keyS HSZ.o) (.held (hV m)) [] HV2.o ?_;intro x6 P hg6)
     rw[pq _ hqf]at P
     replace P:=Wj P
     rw[O_]at P;have hfl:(Yg (A,hV m) f).length=f.length+1:=by rw[(Fe _ _).length_eq];rfl
     have a8m:Hid (Fr W (ts.map (gT W)) (Yg (A,hV m) f) (Ym W m tk)):=by have h:=HAD.o.2;rw[HG.o]at h;exact h
     have HM6:=U0 P;have BT6:=(O.trans (But.of_below b5)).trans (But.a2T hg6);clear P hg6;go_roundw;exact⟨k+1,Yg (A,hV m) f,Ym W m tk,O0,by go_num,HM6,a8m,HP3,O0,BT6⟩;exact V9
  obtain rfl:k=(F_ ls).length+1:=O0;have HPF:Hid (I8 W (Xm ls c t) (ts,true)=(tk,true)):=by have h:=HPu.o;rw[p_ (by simp[Xm])]at h;exact h
  go_wp2;go_ret2;exact⟨.inl ⟨w.heap.size+1,f,tk,rfl,O0,HMr.o,HFr.o,HPF.o⟩,BWE.trans (BTr.below O0 O0)⟩
 refine wp_region_held_drew (S:=(λu=>u.cell? ⟨w.heap.size,0,none⟩=some (Sc Se c)/\u.cell? ⟨w.heap.size,1,none⟩=some (Sb t))) Y0 ?_ λhHeld=>?_
 ·exact⟨e0,e1⟩
 refine y_ 0 ?_;refine y_ 2 ?_;refine y_ 6 ?_;refine wpAnyH_ready (rs:=[1,3]) Y0 J4 ?_;refine AllReadyH.cons (o:=⟨some 17,.call ⟨.value (.func 306),#[.tmp 16],#[116]⟩,408,_,_,none⟩) rfl (λK b=>?_) (AllReadyH.cons (o:=⟨some 19,.buildSlice 408 1 #[(0,.tmp 18)],408,_,_,none⟩) rfl (λK b=>?_) AllReadyH.nil)
 ·go_simp;refine(a2n ls a cap _ hl (Q7 HLK.o ((O4 _ _).drew))).mono ?_;rintro e u2⟨⟨va,rfl,hva⟩,a8n⟩
  go_wp2_with fail
  have B2:Bw x u2:=((O4 _ _).drew).trans a8n;have s2:=B2.size;have hdr:x.drew.heap.size<=x.heap.size/\x.heap.size<=x.drew.heap.size:=⟨Y7 _,Y7 _⟩;have p0:=(B2.cell (by show w.heap.size<x.heap.size;omega)).trans e0;have p1:=(B2.cell (by show w.heap.size<x.heap.size;omega)).trans e1;clear hHeld;refine G9 b ⟨p0,p1⟩ λhHeld=>?_;clear b K;refine rq 3 λK b=>?_;go_simp;have D:Bw u2 (u2.alloc (Sg #[Sc Se c,Sb t] 117)):=U6;have cA:=a2V u2 (Sc Se c) (Sb t) 117;have sA:(u2.alloc (Sg #[Sc Se c,Sb t] 117)).heap.size=u2.heap.size+1:=J4;have q0:=(D.cell (by show w.heap.size<u2.heap.size;omega)).trans p0;have q1:=(D.cell (by show w.heap.size<u2.heap.size;omega)).trans p1;clear hHeld;refine G9 b ⟨q0,q1⟩ λhHeld=>?_;clear b K;have Y:=U0 (own_below hva D);have B3:=B2.trans (D.mono s2);generalize (u2.alloc (Sg #[Sc Se c,Sb t] 117))=u3 at*;refine rq 4 λK b=>?_;refine ul rfl (.tmp 17) (.tmp 19) 408 rfl _ 117 i0 (.agg #[Sc Se 0,Sb ⟨#[]⟩]) 2 24 underlying408 hi hz0 hz1 hz2 rfl U5 va _ _ rfl Y.o ⟨u2.heap.size,0,none⟩ 1 1 [Sc Se c,Sb t] rfl rfl cA (by simp[Value.oneCell']) HM1.o HM2.o O0 ?_;intro v4 u4 ho4 hg4 hl4;have F:=B3.trans (m_ hg4 (λj e=>X7 O0 (X4 Y.o e)) O0);have s4:=F.size;have I:=U0 (I7 ho4 (base':=x.heap.size) O0);obtain⟨N,L,hv4⟩:=x9 I.o;have k0:=(F.cell (by show w.heap.size<x.heap.size;omega)).trans e0;have k1:=(F.cell (by show w.heap.size<x.heap.size;omega)).trans e1;subst hv4;clear hHeld;refine G9 b ⟨k0,k1⟩ λhHeld=>?_;clear b K;refine sq ?_;refine wdn ?_;exact TAIL va u2.heap.size N L u4 F I
 go_simp;have D:Bw x ((x.alloc (Sg #[Sc Se c,Sb t] 117)).drew):=U6.drew;have cA0:=a2V x (Sc Se c) (Sb t) 117;have sA:((x.alloc (Sg #[Sc Se c,Sb t] 117)).drew).heap.size=x.heap.size+1:=J4;have q0:=(D.cell (by show w.heap.size<x.heap.size;omega)).trans e0;have q1:=(D.cell (by show w.heap.size<x.heap.size;omega)).trans e1;clear hHeld;refine G9 b ⟨q0,q1⟩ λhHeld=>?_;clear b K;have cA1:∀j u,[Sc Se c,Sb t][j]?=some u->((x.alloc (Sg #[Sc Se c,Sb t] 117)).drew).cell? ((⟨x.heap.size,0,none⟩:Addr).add j)=some u:=cA0;generalize ((x.alloc (Sg #[Sc Se c,Sb t] 117)).drew)=u2 at*;refine rq 1 λK b=>?_;go_simp;refine(a2n ls a cap _ hl (Q7 HLK.o D)).mono ?_;rintro e u3⟨⟨va,rfl,hva⟩,a7g⟩
 go_wp2_with fail
 have s3:=a7g.size;have B3:=D.trans (a7g.mono O0);have q2:=(a7g.cell (by show w.heap.size<u2.heap.size;omega)).trans q0;have q3:=(a7g.cell (by show w.heap.size<u2.heap.size;omega)).trans q1;have cA:∀j u,[Sc Se c,Sb t][j]?=some u->u3.cell? ((⟨w.heap.size+2,0,none⟩:Addr).add j)=some u:=λj u h=>by
  rw[<- s1];exact(a7g.cell (by rw[Jl];show x.heap.size<u2.heap.size;omega)).trans (cA1 j u h)
 clear hHeld;refine G9 b ⟨q2,q3⟩ λhHeld=>?_;clear b K;have Y:=U0 hva;refine rq 4 λK b=>?_;refine ul rfl (.tmp 17) (.tmp 19) 408 rfl _ 117 i0 (.agg #[Sc Se 0,Sb ⟨#[]⟩]) 2 24 underlying408 hi hz0 hz1 hz2 rfl U5 va _ _ rfl Y.o ⟨w.heap.size+2,0,none⟩ 1 1 [Sc Se c,Sb t] rfl rfl cA (by simp[Value.oneCell']) HM1.o HM2.o O0 ?_;intro v4 u4 ho4 hg4 hl4;have F:=B3.trans (m_ hg4 (λj e=>X7 O0 (X4 Y.o e)) O0);have s4:=F.size;have I:=U0 (I7 ho4 (base':=x.heap.size) O0);obtain⟨N,L,hv4⟩:=x9 I.o;have k0:=(F.cell (by show w.heap.size<x.heap.size;omega)).trans e0;have k1:=(F.cell (by show w.heap.size<x.heap.size;omega)).trans e1;subst hv4;clear hHeld;refine G9 b ⟨k0,k1⟩ λhHeld=>?_;clear b K;refine sq ?_;refine wdn ?_;exact TAIL va (w.heap.size+2) N L u4 F I
open Classical in
noncomputable def v_(W:Int)(ts:LB)(rs:List R3)(m:M3)(ls:List L4)(c:Int)(t:BY):Int:=
 if ¬Fg m ls c t then 2 else if (I8 W (Xm ls c t) (ts,true)).2=false then 3 else
 if 300<(I8 W (Xm ls c t) (ts,true)).1.length\/150<(Zg rs (Ui W m ls c t)).length then 4 else 0
theorem a0c{s:BY}{v:Bool}(hv:vr c s.data.toList=v)(w:World)(hs:s.size<=1048700):Calls prog 234 #[.agg #[Sc Se c,Sb s]] w λe w'=>e=Sf (.bool v)/\Bw w w':=hv▸c234 c s w hs
theorem YG(h:ig m=true):(rf m).size<=321:=by
 unfold ig Y5 at h;simp only[Fa,Pe]at h;have e:m.tl.data.toList.length=m.tl.size:=Uy;have h1:=h.1.2.1.2;have h2:=h.2;unfold rf;rw[OJ,OJ];have e1:(⟨#[32]⟩:BY).size=1:=rfl;omega
theorem FU{a:Int}(h:0<=a/\a<=1000000):IntKind.i64.wrap a=a:=by
 exact IntWalk.i64_in a O0
theorem SQ(W:Int)(t:BY)(ts:LB):(Ym W t ts).length=ts.length+1:=by
 have h:=G7 List.length (kC W t ts);rw[Ve,(Fe _ _).length_eq]at h;simpa using h
theorem WR(W:Int)(t:BY)(ts:LB):(Zb W t ts).1.length<=ts.length+1:=by
 unfold Zb;split
 ·exact Hq _
 rw[SQ];exact Y7 _
theorem aB(W:Int):∀(a ts:LB)(b:Bool),(I8 W a (ts,b)).1.length<=ts.length+a.length
 | [],ts,b=>Y7 _
 | t::r,ts,b=>by
  have h1:=aB W r (Zb W t ts).1 (b&&(Zb W t ts).2);have h2:=WR W t ts;have e:I8 W (t::r) (ts,b)=I8 W r ((Zb W t ts).1,b&&(Zb W t ts).2):=rfl;rw[e,f_];omega
theorem a1P{c:OA}{j:Nat}(h:E.ownsRow base 235 3 (Sa c n j) ls.length (SG W ls)):R_ E c (ls.map (Hz W))/\(ls.map (Hz W)=[]\/∃b off,c=some ⟨b,off,none⟩/\∃cur fr,E.heap[b]?=some (Sg cur 235 fr)):=by
 have a:=h;have f:∀(l:List L4)(k:Nat),k<l.length->(SG W l)[k*3]?=some (.bool (l.getD k K_).has)/\(SG W l)[k*3+1]?=some (vS (l.getD k K_).nm)/\(SG W l)[k*3+2]?=some (vS (Y6 (Qs (l.getD k K_)) W)):=by
  intro l
  induction l with
  | nil=>intro k hk;exact absurd hk (U8 _)
  | cons x r ih=>
   intro k hk
   cases k with
   | zero=>exact⟨rfl,rfl,rfl⟩
   | succ k=>
    have:=ih k (by simpa using hk);have e1:(k+1)*3=k*3+1+1+1:=O0;rw[e1];exact this
 rcases h.2 with⟨hv,h0⟩|⟨g,cap,cur,hv,hg,d,_⟩
 ·have e:=Xb.1 h0;subst e;exact⟨.inl rfl,.inl rfl⟩
 simp only[Hu]at hv;obtain⟨rfl,rfl,rfl⟩:=hv;refine⟨.inr ⟨g,0,rfl,(Ya.1 d).1,λk hk=>?_⟩,.inr ⟨g,0,rfl,cur,(0,0),d⟩⟩;rw[Ve]at hk;have e:(ls.map (Hz W)).getD k Jh=Hz W (ls.getD k K_):=by simp only[List.getD,yu,V8 hk,qy,Dc]
 obtain⟨e0,e1,i⟩:=f ls k hk;rw[e];refine⟨?_,?_,?_⟩
 ·rw[Y8,a.cellAt (k*3) O0];exact e0
 ·rw[Y8,a.cellAt (k*3+1) O0];exact e1
 rw[Y8,a.cellAt (k*3+2) O0];exact i
theorem Fr.vals{l f:List (ByteArray×Value)}(h:Fr W l f ts):∀p∈f,∃q,p.2=mk3 q:=λp a=>by
 obtain⟨y,_,rfl⟩:=Rh.1 (h.perm.mem_iff.2 (dF l a));exact⟨(y,hC y,hT y),rfl⟩
theorem OI{x:R3}(h:rs.length<=150):150<(Zg rs x).length↔x∉rs/\rs.length=150:=by
 unfold Zg;split
 ·rename_i hx;constructor
  ·intro h1;omega
  intro h1;exact absurd hx h1.1
 rename_i hx;simp only[Q9,jk];constructor
 ·intro h1;exact⟨hx,O0⟩
 intro h1;omega
theorem jM{x:L4}(h:x.tx.size<=1048576):(Qs x).size<=1048700:=by
 unfold Qs;split
 ·split<;>decide
 have:=Lr x.cd x.tx;unfold KC at this;omega
def a1t(B H bT bR bP:Nat)(W:Int)(ts:LB)(rs:List R3)(m:M3)(ls:List L4)(c:Int)(t:BY)(w':World)(e:Ending):Prop:=
 e=Sf (Sc Se (v_ W ts rs m ls c t))/\(v_ W ts rs m ls c t=0->∃rv',Sh B H bT bR bP W ((I8 W (Xm ls c t) (ts,true)).1.map (gT W)) (Zg rs (Ui W m ls c t)) rv' w')
theorem jE{n:Int}(h:v_ W ts rs m ls c t=n)(a:n≠0):a1t B H bT bR bP W ts rs m ls c t w' (Sf (Sc Se n)):=⟨by rw[h],λe=>absurd (h.symm.trans e) a⟩
theorem a3K{a:List Value}(h:v_ W ts rs m ls c t=0)(hs:Sh B H bT bR bP W ((I8 W (Xm ls c t) (ts,true)).1.map (gT W)) (Zg rs (Ui W m ls c t)) a w'):a1t B H bT bR bP W ts rs m ls c t w' (Sf (Sc Se 0)):=⟨by rw[h],λ_=>⟨a,hs⟩⟩
theorem a4G(B H bT bR bP:Nat)(W:Int)(ts:LB)(rs:List R3)(rv:List Value)(m:M3)(ls:List L4)(c:Int)(t:BY)(a:OA)(cap:Nat)(w:World)(hSh:Sh B H bT bR bP W (ts.map (gT W)) rs rv w)(hW:1<=W/\W<=8)(hA:Ol W ts)(htl:ts.length<=300)(Z:rs.length<=150)(hgs:∀i,(rs.getD i d_).gs.length<=1048576)(hm:m.le 1048576)(hl:ls.length<=1048576)(hs:∀i,(ls.getD i K_).le 1048576)(ht:t.size<=1048576)(hat:O9 w a ls):
 Calls prog 221 #[Sd (some ⟨H,0,none⟩),.agg #[Sb m.nm,Sb m.tl,Sb m.ar],Sa a ls.length cap,.agg #[Sc Se c,Sb t]] w λe w'=>a1t B H bT bR bP W ts rs m ls c t w' e/\Below B w w'/\KF w w':=by
 have s:B<=w.heap.size:=by obtain⟨pl,h1,_⟩:=hSh;have:=h1.hH;have:=h1.lt;omega
 have BW0:Bw w ((w.alloc (Sg #[vS m.nm,vS m.tl,vS m.ar] 142)).alloc (Sg #[vI c,vS t] 117)):=U6.alloc J4 _;have s0:((w.alloc (Sg #[vS m.nm,vS m.tl,vS m.ar] 142)).alloc (Sg #[vI c,vS t] 117)).heap.size=w.heap.size+2:=J4;have V:Hid (J6 ((w.alloc (Sg #[vS m.nm,vS m.tl,vS m.ar] 142)).alloc (Sg #[vI c,vS t] 117)) w.heap.size [vS m.nm,vS m.tl,vS m.ar]):=U0 ((X9 w [vS m.nm,vS m.tl,vS m.ar] 142).below (N:=w.heap.size+1) ((O4 _ _).alloc J4 _) O0);have BC0:Hid (J6 ((w.alloc (Sg #[vS m.nm,vS m.tl,vS m.ar] 142)).alloc (Sg #[vI c,vS t] 117)) (w.heap.size+1) [vI c,vS t]):=by have h:=X9 (w.alloc (Sg #[vS m.nm,vS m.tl,vS m.ar] 142)) [vI c,vS t] 117;rw[show(w.alloc (Sg #[vS m.nm,vS m.tl,vS m.ar] 142)).heap.size=w.heap.size+1 by simp]at h;exact h
 have k0:=V.o 0 _ rfl;have k1:=V.o 1 _ rfl;have k2:=V.o 2 _ rfl;have HSH:=U0 hSh;have hkR:m.tl.size<=1048576/\m.ar.size<=1048576:=⟨hm.2.1,hm.2.2⟩;have HM7:Hid (m.le 1048700):=⟨X7 hm.1 O0,X7 hm.2.1 O0,X7 hm.2.2 O0⟩
 go_in
 go_wp2_with fail
 generalize ((w.alloc (Sg #[vS m.nm,vS m.tl,vS m.ar] 142)).alloc (Sg #[vI c,vS t] 117))=U1 at*;cases hn:ig m
 ·have d:Hid (v_ W ts rs m ls c t=2):=by show v_ _ _ _ _ _ _ _=2;unfold v_;rw[if_pos (λh=>by have h1:=h.1;rw[hn]at h1;cases h1)]
  refine(XM hn _ HM7).mono ?_;rintro e w1⟨rfl,v⟩;go_wp2;go_ret;exact⟨jE d U5,(BW0.trans (v.mono O0)).mono s,Zd (BW0.trans (v.mono O0)) A8⟩
 refine(XM hn _ HM7).mono ?_;rintro e w1⟨rfl,v⟩;have s1:=v.size;have BK1:=U0 (V.o.below v O0);have BC1:=U0 (BC0.o.below v O0);have BW1:=BW0.trans (v.mono O0)
 go_wp2_with fail
 refine(c233 a cap ls _ hl hs (Q7 hat BW1)).mono ?_;rintro e w2⟨⟨r,rfl,hr⟩,L⟩;have s2:=L.size;have BK2:=U0 (BK1.o.below L O0);have BC2:=U0 (BC1.o.below L O0);have U:=BW1.trans (L.mono O0);have j0:=BC2.o 0 _ rfl;have j1:=BC2.o 1 _ rfl;cases r
 ·have d:Hid (v_ W ts rs m ls c t=2):=by show v_ _ _ _ _ _ _ _=2;unfold v_;rw[if_pos (λh=>absurd (hr.2 h.2.1) U5)]
  go_wp2;go_ret;exact⟨jE d.o U5,U.mono s,Zd U A8⟩
 have hlo:=hr.1 rfl;clear hr
 go_wp2_with fail
 cases hv:vr c t.data.toList
 ·have d:Hid (v_ W ts rs m ls c t=2):=by show v_ _ _ _ _ _ _ _=2;unfold v_;rw[if_pos (λh=>by have h1:=h.2.2;rw[hv]at h1;cases h1)]
  refine(a0c hv _ O0).mono ?_;rintro e w3⟨rfl,C⟩;have D:=U.trans (C.mono O0);go_wp2;go_ret;exact⟨jE d U5,D.mono s,Zd D A8⟩
 refine(a0c hv _ O0).mono ?_;rintro e w3⟨rfl,C⟩;have s3:=C.size;have BK3:=U0 (BK2.o.below C O0);have BC3:=U0 (BC2.o.below C O0);have D:=U.trans (C.mono O0);have HRK:Hid (Fg m ls c t):=⟨hn,hlo,hv⟩;have i0:=BC3.o 0 _ rfl;have i1:=BC3.o 1 _ rfl;have HL3:=U0 (Q7 hat D);have HS3:=U0 (HSH.o.below D);have h63:=a5b B H bT bR bP W ts rs rv ls c t a cap w3 HS3 hW hA hlo hv hl HL3
 go_wp2_with fail
 refine h63.mono ?_;rintro e I⟨hfr,A⟩;have s4:=A.size;have BK4:=U0 (BK3.o.below A O0);have BC4:=U0 (BC3.o.below A O0);have BW4:=D.trans (A.mono O0);rcases hfr with⟨bF,f,J,rfl,hbF,hmF,hFr,hpu⟩|⟨rfl,hno⟩
 ·have Q:=U0 hFr;have O:=U0 hpu;have HMF:=U0 hmF;have HS4:=U0 (HS3.o.below A);have HL4:=U0 (Q7 HL3 A);have q0:=BC4.o 0 _ rfl;have q1:=BC4.o 1 _ rfl;have p0:=BK4.o 0 _ rfl;have p1:=BK4.o 1 _ rfl;have p2:=BK4.o 2 _ rfl;have hfl:f.length+ts.length=J.length:=by have:=hFr.done.2;rw[Ve]at this;omega
  have hH4:H<I.heap.size/\I.cell? (aA H 0)=some (vI W):=by obtain⟨pl,h1,_⟩:=HS4.o;exact⟨h1.lt,h1.blk 0 _ rfl⟩
  have h64:=a5i m ls c t W H a cap I ⟨Nat.le_trans hm.1 O0,Nat.le_trans hm.2.1 O0,Nat.le_trans hm.2.2 O0⟩ O0 (by have:=Lr c t;unfold KC at this;omega) hl (λi=>⟨Nat.le_trans (hs i).2 O0,jM (hs i).2⟩) HL4 hH4.1 hH4.2
  go_wp2_with fail
  refine h64.mono ?_;rintro e p⟨⟨v5,rfl,hv5⟩,hb5⟩;obtain⟨l,g,rfl⟩:=x9 hv5;have s5:=hb5.size;have a7y:Bw I (p.alloc (Sg #[vS (rf m),vL l ls.length g,vS (Y6 (U3 (b_ c t.data.toList)) W)] 179)):=hb5.alloc s5 _;have sX:(p.alloc (Sg #[vS (rf m),vL l ls.length g,vS (Y6 (U3 (b_ c t.data.toList)) W)] 179)).heap.size=p.heap.size+1:=J4;have BWx:=BW4.trans (a7y.mono O0);have HSx:=U0 (HS4.o.below a7y);have HMx:=U0 (U9 HMF a7y HMF.o.lt);have R:Hid (J6 (p.alloc (Sg #[vS (rf m),vL l ls.length g,vS (Y6 (U3 (b_ c t.data.toList)) W)] 179)) p.heap.size [vS (rf m),vL l ls.length g,vS (Y6 (U3 (b_ c t.data.toList)) W)]):=U0 (X9 p [vS (rf m),vL l ls.length g,vS (Y6 (U3 (b_ c t.data.toList)) W)] 179);have hrow:=own_below hv5 ((O4 _ _).alloc A8 (Sg #[vS (rf m),vL l ls.length g,vS (Y6 (U3 (b_ c t.data.toList)) W)] 179));have GR:=U0 (a1P hrow);obtain⟨x,hx⟩:∃x,Ui W m ls c t=x:=⟨_,rfl⟩;have HX:=U0 hx;have X:x.key=rf m:=by rw[<- hx];rfl
  have hxo:x.o=Y6 (U3 (b_ c t.data.toList)) W:=by rw[<- hx];rfl
  have K:x.gs=ls.map (Hz W):=by rw[<- hx];rfl
  have hxl:x.gs.length=ls.length:=by rw[K];simp
  have hxs:x.key.size<=321:=by rw[X];exact YG hn
  have HRV:Hid (LC B (p.alloc (Sg #[vS (rf m),vL l ls.length g,vS (Y6 (U3 (b_ c t.data.toList)) W)] 179)) (.agg #[vS x.key,vL l x.gs.length g,vS x.o]) x):=⟨l,g,rfl,by rw[K];exact GR.o.1,by
   rw[K];rcases GR.o.2 with h|⟨b,off,h1,h2⟩
   ·exact .inl h
   exact .inr ⟨b,off,h1,.inr h2⟩⟩
  have h65:=a5v B H bT bR bP W _ rs rv x l g (p.alloc (Sg #[vS (rf m),vL l ls.length g,vS (Y6 (U3 (b_ c t.data.toList)) W)] 179)) HSx (by rw[K];exact GR.o.1) O0 O0 O0 hgs;rw[X,hxl,hxo]at h65;have z0:=R.o 0 _ rfl;have z1:=R.o 1 _ rfl;have z2:=R.o 2 _ rfl
  go_wp2_with fail
  refine h65.mono ?_;rintro e w6⟨⟨bt,rfl,hbt⟩,z⟩;generalize (p.alloc (Sg #[vS (rf m),vL l ls.length g,vS (Y6 (U3 (b_ c t.data.toList)) W)] 179))=x5 at*;have s6:=z.size;have u:=BWx.trans (z.mono O0);have HF6:=U0 (U9 HMx z HMx.o.lt);have S:=U0 (R.o.below z O0);have RV6:=U0 (HRV.o.kept (Yd z) (λ_ e=>by cases e));obtain⟨pl,y,hR6⟩:=HSx.o.below z;have q:=U0 y;have a7J:=U0 hR6;have HT6:=U0 y.tx;have HR6:=U0 y.rc;have f1:=y.blk 1 _ rfl;have f2:=y.blk 2 _ rfl;have o0:=S.o 0 _ rfl;have o1:=S.o 1 _ rfl;have o2:=S.o 2 _ rfl;have a8o:bT<w.heap.size:=by obtain⟨pl',h1,_⟩:=HSH.o;exact h1.tx.lt
  have Y:=U0 hR6.len;have a9f:rv.length<=150:=by rw[Y.o];exact Z
  have HDN:=U0 Q.o.done.1;have hfn:f.length<=16:=by
   have h1:=aB W (Xm ls c t) ts true;rw[O.o]at h1;have h2:(Xm ls c t).length=(F_ ls).length+1:=by simp[Xm]
   have h3:=aC ls;have h4:=hlo.1;simp only at h1;omega
  have h66:=a4P bT bF _ _ _ f w6 HT6 HF6 Q.o.vals O0 (by rw[O_,List.length_map];unfold maxLen;omega);have P:Hid (((300<J.length\/(x∉rs/\rs.length=150))->v_ W ts rs m ls c t=4)/\(¬(300<J.length\/(x∉rs/\rs.length=150))->v_ W ts rs m ls c t=0)):=by
   show _/\_;have e:v_ W ts rs m ls c t=if 300<J.length\/150<(Zg rs x).length then 4 else 0:=by
    unfold v_;rw[U7 (λh=>h HRK.o),O.o,U7 J4,HX.o]
   rw[e];exact⟨λh=>D8 (h.imp id (OI Z).2),λh=>U7 (λk=>h (k.imp id (OI Z).1))⟩
  have hwr:IntKind.i64.wrap ((ts.length:Int)+(f.length:Int))=(ts.length:Int)+(f.length:Int):=FU O0;have hlT:=y.tx.len underlying290 3;rw[O_,Ve]at hlT;have hlF:=HF6.o.len underlying290 3;rw[O_]at hlF;have hlR:=y.rc.len underlying291 3;rw[lm]at hlR;by_cases a7c:300<ts.length+f.length
  ·have d:Hid (v_ W ts rs m ls c t=4):=by show v_ _ _ _ _ _ _ _=4;exact P.o.1 (.inl O0)
   have hi3:(300:Int)<(ts.length:Int)+(f.length:Int):=O0;go_wp2;go_ret;exact⟨jE d U5,u.mono s,Zd u A8⟩
  have hi3:¬(300:Int)<(ts.length:Int)+(f.length:Int):=O0;cases bt
  ·have HNX:Hid (x∉rs):=λh=>absurd (hbt.2 h) U5;by_cases a7w:rv.length=150
   ·have d:Hid (v_ W ts rs m ls c t=4):=by show v_ _ _ _ _ _ _ _=4;exact P.o.1 (.inr ⟨HNX,by rw[<- Y.o];exact a7w⟩)
    go_wp2;go_ret;exact⟨jE d U5,u.mono s,Zd u A8⟩
   have d:Hid (v_ W ts rs m ls c t=0):=by show v_ _ _ _ _ _ _ _=0;exact P.o.2 (λh=>h.elim (λh=>O0) (λh=>a7w (Y.o.trans h.2)))
   have hi5:((rv.length:Int)==150)=false:=by rw[S_];omega
   go_wp2_with fail
   refine h66.mono ?_;rintro e E⟨rfl,n,o⟩;rw[HDN.o]at n
   replace n:=Wj n
   rw[O_]at n;have C7:=U0 (q.o.upT o n Q.o.asc);have R7:=U0 (a7J.o.a1h o q);have B7:=m_ o (λj e=>by cases e;exact q.o.hT) O0;have BB7:=(u.mono s).trans B7;have KK7:Hid (KF w E):=by obtain⟨es,ck,F⟩:=Ic q.o.tx;exact(Zd u A8).trans (MB o F)
   have neT:some p.heap.size≠some bT:=λe=>by have:=C_ e;omega
   have E7:=U0 (Qb S o O0 neT);have u0:=E7.o 0 _ rfl;have u1:=E7.o 1 _ rfl;have u2:=E7.o 2 _ rfl;have RV7:=RV6.o.kept o (by obtain⟨es,ck,F⟩:=Ic q.o.tx;exact uy q.o.hT F);have h59:=a3s B H bT bR bP W _ rs rv x l g E ⟨pl,C7,R7⟩ RV7 O0 O0;rw[X,hxl,hxo]at h59
   go_wp2_with fail
   refine h59.mono ?_;rintro e w8⟨rfl,hS8,hB8,hK8⟩;have HK8:=U0 hK8;have HS8:Hid (Sh B H bT bR bP W ((I8 W (Xm ls c t) (ts,true)).1.map (gT W)) (Zg rs (Ui W m ls c t)) (rv++[.agg #[vS (rf m),vL l ls.length g,vS (Y6 (U3 (b_ c t.data.toList)) W)]]) w8):=by
    show Sh _ _ _ _ _ _ _ _ _ _;rw[O.o,HX.o,Zg,U7 HNX.o];exact hS8
   clear h59 hS8;go_wp2;go_ret;exact⟨a3K d.o HS8.o,BB7.trans hB8,KK7.o.trans HK8.o⟩
  have HIX:Hid (x∈rs):=by show x∈rs;simpa using hbt
  have d:Hid (v_ W ts rs m ls c t=0):=by show v_ _ _ _ _ _ _ _=0;exact P.o.2 (λh=>h.elim (λh=>O0) (λh=>h.1 HIX.o))
  clear hbt
  go_wp2_with fail
  refine h66.mono ?_;rintro e E⟨rfl,n,o⟩;rw[HDN.o]at n
  replace n:=Wj n
  rw[O_]at n;have C7:=U0 (q.o.upT o n Q.o.asc);have R7:=U0 (a7J.o.a1h o q);have B7:=m_ o (λj e=>by cases e;exact q.o.hT) O0;have BB7:=(u.mono s).trans B7;have KK7:Hid (KF w E):=by obtain⟨es,ck,F⟩:=Ic q.o.tx;exact(Zd u A8).trans (MB o F)
  have HS8:Hid (Sh B H bT bR bP W ((I8 W (Xm ls c t) (ts,true)).1.map (gT W)) (Zg rs (Ui W m ls c t)) rv E):=by
   show Sh _ _ _ _ _ _ _ _ _ _;rw[O.o,HX.o,Zg,D8 HIX.o];exact⟨pl,C7,R7⟩
  go_wp2;go_ret;exact⟨a3K d HS8,BB7,KK7⟩
 have d:Hid (v_ W ts rs m ls c t=3):=by show v_ _ _ _ _ _ _ _=3;unfold v_;rw[if_neg (λh=>h HRK.o),if_pos hno]
 go_wp2;go_ret;exact⟨jE d U5,BW4.mono s,Zd BW4 A8⟩
