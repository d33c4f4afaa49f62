import Derived.Test.YtkdbheidpdjimaaGreatDoorvG
import Derived.Test.YtkdbheidpdjimaaGreatDoortW4
set_option linter.unusedVariables false
set_option maxHeartbeats 8000000
set_option maxRecDepth 100000
namespace Go.Proofs.YtkdbheidpdjimaaGreatDoor
open Proofs.Tryz Go.RowKit
theorem a1t (x:R3) (f:OA) (n:Nat) (w:World) (hl:x.gs.length<=1048576) (r:Z_ w f x.gs):
 Calls prog 108 #[.agg #[.string x.key,.slice f x.gs.length n,.string x.out]] w fun e w'=>(∃ v,e=.returned (.agg #[.string x.key,v,.string x.out])/\Et w.heap.size w' Z_ x.gs v)/\Bw w w':=by
 have H:=U0 r;clear r;go_enter func108,ntmps108
 go_upto_region 2 with fail
 have k:=U0 (Aj (w:=w) (ta:=158) (tr:=113) (ar:=[vS x.key,vL f x.gs.length n,vS x.out]) (zs:=[vE,vN,vE]));generalize ((w.alloc (.cells #[vS x.key,vL f x.gs.length n,vS x.out] 158)).alloc (.cells #[vE,vN,vE] 113)).alloc (.cells #[vE,vN,vE] 113)=E at*;have g:=k.out.ca.cell 0;simp only [@gz Value] at g;have o1:=k.out.co.cell 0;have d:=k.out.co.opn 0;simp only [@gz Value] at o1
 go_upto_region 3 with fail
 clear o1 d;have i:=U0 (k.out.put 0 (vS x.key));dsimp only [List.set_cons_zero,List.set_cons_succ] at i;generalize E.setCell (aA (w.heap.size+1+1) 0) (vS x.key)=V1 at*;clear k;clear g;have s:=i.out.ca.cell 1;simp only [@gz Value] at s
 go_wp2_with fail
 clear s;refine (a0O f n x.gs V1 hl (kT (O8 H.out i.out.bel))).mono ?_;rintro e D ⟨⟨_,rfl,b,a,rfl,y,l⟩,m⟩;have p:=U0 (i.out.call m (l));clear m l i;have o1:=p.out.co.cell 1;have d:=p.out.co.opn 1;simp only [@gz Value] at o1
 go_upto_region 4 with fail
 clear o1 d;have c:=U0 (p.out.put 1 (vL b x.gs.length a));dsimp only [List.set_cons_zero,List.set_cons_succ] at c;generalize D.setCell (aA (w.heap.size+1+1) 1) (vL b x.gs.length a)=C at*;clear p;have g:=c.out.ca.cell 2;simp only [@gz Value] at g;have o1:=c.out.co.cell 2;have d:=c.out.co.opn 2;simp only [@gz Value] at o1
 go_upto_region 5 with fail
 clear o1 d;have o:=U0 (c.out.put 2 (vS x.out));dsimp only [List.set_cons_zero,List.set_cons_succ] at o;generalize C.setCell (aA (w.heap.size+1+1) 2) (vS x.out)=V4 at*;clear c;clear g;have F:Hid (∀ v∈([vS x.key,vL b x.gs.length a,vS x.out]:List Value),v.oneCell'=true):=by intro v hv;simp at hv;rcases hv with rfl|rfl|rfl<;>rfl
 go_wp2_with (first | (refine Z9 rfl (Y8 113 _ rfl (B:=w.heap.size+1+1) (j:=0) (cs:=[vS x.key,vL b x.gs.length a,vS x.out]) rfl (fun q v e=>by rw [E8];exact (o.out.co.cell q).trans e) underlying113 rfl J3) ?_) | (refine Z8 rfl 113 _ _ rfl (B:=w.heap.size+1) (j:=0) rfl (vs:=[vS x.key,vL b x.gs.length a,vS x.out]) rfl o.out.cr x9 F.out J3 ?_;intro z A t))
 obtain ⟨l,m⟩:=o.out.end_ t;exact P7 (v:=.agg #[vS x.key,vL b x.gs.length a,vS x.out]) (b_ (P:=prog) (ty:=113) rfl _ z (w.heap.size+1) [vS x.key,vL b x.gs.length a,vS x.out] _ rfl A.blk underlying113 rfl J3) rfl ⟨⟨_,rfl,_,_,rfl,y,l.imp (fun u h=>RU h.2)⟩,m⟩
theorem c63 (a:OA) (Z:Nat) (is:List R3) (w:World) (hl:is.length<=1048576) (A:∀ i,(is.getD i g_).gs.length<=1048576) (F:Jg w a is):
 Calls prog 63 #[.slice a is.length Z] w fun e w'=>(∃ v,e=.returned v/\Et w.heap.size w' Jg is v)/\Bw w w':=by
 obtain ⟨b,off,hc⟩:=Af F;have HC:=U0 hc;have HS:=U0 A;clear hc F A;obtain ⟨L,D,Q,O,N⟩:=info_parts (show (prog.info? 113).map (fun i=>(i.zero,i.size,i.bytes))=some (some (.agg #[vE,vN,vE]),3,56) from J3);have hmk:∀ u:World,(Instr.makeSlice 42 (vI (is.length:Int)) (vI (is.length:Int))).run prog u=
  .ok (vL (some (aW u 0)) is.length is.length) (u.alloc (.cells (zs [vE,vN,vE] is.length).toArray 113)):=fun u=>by
  have h:=Vm (P:=prog) u 42 113 L (.agg #[vE,vN,vE]) underlying42 D Q .i64 .i64 (is.length:Int) (is.length:Int) O0 (Ak _) (by rw [N];omega) O0;rw [<- Am];simpa [O,Value.cells] using h
 go_enter func63,ntmps63
 go_wp2_with fail
 go_loopw [4] (fun i wr=>∃ (k:Nat) (ps:List (R3×Value)),k<=is.length/\i=.int .i64 k/\Below w.heap.size w wr/\Hid (ps.map Prod.fst=is.take k)/\Hid (Cl wr w.heap.size 113 (ps.flatMap qM++zs [.string ⟨#[]⟩,.slice none 0 0,.string ⟨#[]⟩] (is.length - k)))/\Hid (∀ p∈ps,Et (w.heap.size+1) wr Z_ p.1.gs p.2)) (fun i _=>is.length - (intOf i).toNat)
 case atStart=>exact ⟨0,[],D5 _,rfl,o7,rfl,by show Cl _ _ _ _;simp only [Kq,M_,Rq];exact G6 _ _ _,fun p c=>absurd c Kt⟩
 case round=>
  obtain ⟨k,ps,hk,rfl,r,c,hc,H⟩:=hrel;by_cases g:k<is.length;rotate_left
  · have hd:Hid (Et w.heap.size wr Jg is (vL (some (aW w 0)) is.length is.length)):=by
     obtain rfl:k=is.length:=O0;have e:=c.out;rw [Uj] at e;refine ⟨_,_,rfl,Y9 _,fun u h1 h2=>.inr ⟨w.heap.size,0,rfl,m_ hc.out.lt h1,fun i D=>?_⟩⟩;obtain ⟨v,hv,hB⟩:=yJ (d:=g_) (n:=3) (f:=qM) (fun _=>rfl) ((h2 _ x9 hc.out.lt).trans hc.out) (i:=i) (by have:=P5 List.length e;simp at this;omega);rw [e] at hv hB;obtain ⟨a',c',I,_,C⟩:=H.out _ hv;dsimp only at I C;subst I;have W:=C u h1 (fun q hq=>h2 q O0);exact ⟨a',c',hB 0 _ rfl,hB 1 _ rfl,hB 2 _ rfl,W⟩
    go_wp2;go_ret;exact ⟨⟨_,rfl,hd.out⟩,r⟩
  obtain ⟨ha,V,E⟩:=Nc HC.out g;subst ha;obtain ⟨ai,Y,g0,g1,g2,g3⟩:=(E k g).below V r;have R:=HS.out k;have U:Hid (ps.length=k):=by have h:=P5 List.length c.out;simp at h;show _=_;omega
  have S:Hid (∀ v:Value,(ps++[(is.getD k g_,v)]).map Prod.fst=is.take (k+1)):=fun v=>by rw [Fg,c.out,pq,y9 g];simp [List.getD,y9 g]
  generalize is.getD k g_=x at*;clear E
  go_wp2_with fail
  refine (a1t x ai Y wr R g3).mono ?_;rintro e s ⟨⟨v,rfl,hv⟩,o⟩;have X:Bw w s:=G7 r o;have HC1:=U0 (hc.out.below o hc.out.lt);have HV:=U0 (hv.low (b':=w.heap.size+1) (by have:=hc.out.lt;omega));have HI1:Hid (∀ p∈ps,Et (w.heap.size+1) s Z_ p.1.gs p.2):=fun p c=>(H.out p c).below o;have t:Hid ((ps.flatMap qM).length=k*([vE,vN,vE]:List Value).length):=by show _=_;rw [Jc (m:=3) (fun _=>rfl),U.out];rfl
  have HL:=U0 (Du (z:=[vE,vN,vE]) (vs:=qM (x,v)) (n:=is.length) t.out rfl g);have H1:Hid (∀ u∈qM (x,v),u.oneCell'=true):=by
   have h:=hv.one;intro u y;simp [qM] at y;rcases y with rfl|rfl|rfl<;>first | rfl | exact h
  have HP:Hid (∀ z,Cl z w.heap.size 113 (Zp (ps.flatMap qM++zs [vE,vN,vE] (is.length - k)) (k*3) (qM (x,v)))->Cl z w.heap.size 113 ((ps++[(x,v)]).flatMap qM++zs [vE,vN,vE] (is.length - (k+1)))):=fun z h=>by rw [Dq,List.flatMap_singleton,<- au (z:=[vE,vN,vE]) (vs:=qM (x,v)) t.out rfl g];exact h
  clear hv
  go_wp2_with (refine Z8 rfl 113 _ _ rfl (B:=w.heap.size) (j:=k*3) rfl (vs:=qM (x,v)) rfl HC1.out HL.out H1.out J3 ?_;intro z J l;have CZ:=U0 (HP.out z J);have bz:=X.trans (l.below x9);have K:=U0 l;clear J l)
  go_roundw
  case rel=>
   refine ⟨k+1,ps++[(x,v)],O0,by go_num,bz,S.out v,CZ,fun p c=>?_⟩;rcases jh.1 c with h | h
   · exact (HI1.out p h).on K.out O0
   rw [dw.1 h];exact HV.out.on K.out O0
  case measure=>simp [intOf];omega
theorem c29 (ta ra:OA) (tc rc:Nat) (s:St) (w:World) (y:s.le 1048576) (A:Zg w ta ra s):
 Calls prog 29 #[.agg #[.int .i64 s.wd,.slice ta s.ts.length tc,.slice ra s.rs.length rc]] w fun e w'=>(∃ a c D J,e=.returned (.agg #[.int .i64 s.wd,.slice a s.ts.length c,.slice D s.rs.length J])/\Kp w.heap.size w' fun u=>Zg u a D s)/\Bw w w':=by
 have E:=U0 A;have x:=U0 y;clear A y;go_enter func29,ntmps29
 go_upto_region 2 with fail
 have o:=U0 (Aj (w:=w) (ta:=30) (tr:=44) (ar:=[vI s.wd,vL ta s.ts.length tc,vL ra s.rs.length rc]) (zs:=[vO,vN,vN]));generalize ((w.alloc (.cells #[vI s.wd,vL ta s.ts.length tc,vL ra s.rs.length rc] 30)).alloc (.cells #[vO,vN,vN] 44)).alloc (.cells #[vO,vN,vN] 44)=O at*;have C:=o.out.ca.cell 0;simp only [@gz Value] at C;have o1:=o.out.co.cell 0;have k:=o.out.co.opn 0;simp only [@gz Value] at o1
 go_upto_region 3 with fail
 clear o1 k;have n:=U0 (o.out.put 0 (vI s.wd));dsimp only [List.set_cons_zero,List.set_cons_succ] at n;generalize O.setCell (aA (w.heap.size+1+1) 0) (vI s.wd)=V1 at*;clear o;clear C;have l:=n.out.ca.cell 1;simp only [@gz Value] at l
 go_wp2_with fail
 clear l;refine (c31 ta tc s.ts V1 x.out.1.1 (Z5 E.out.1 n.out.bel)).mono ?_;rintro e N ⟨⟨rfl,b⟩,d⟩;have H:=ax b x9;have t:=U0 (n.out.call d (H));clear d b n;have o1:=t.out.co.cell 1;have k:=t.out.co.opn 1;simp only [@gz Value] at o1
 go_upto_region 4 with fail
 clear o1 k;have m:=U0 (t.out.put 1 (vL (some (aW V1 0)) s.ts.length s.ts.length));dsimp only [List.set_cons_zero,List.set_cons_succ] at m;generalize N.setCell (aA (w.heap.size+1+1) 1) (vL (some (aW V1 0)) s.ts.length s.ts.length)=L at*;clear t;have l:=m.out.ca.cell 2;simp only [@gz Value] at l
 go_wp2_with fail
 clear l;refine (c63 ra rc s.rs L x.out.2.1 (fun i=>(x.out.2.2 i).2.1) (Ah E.out.2 m.out.bel)).mono ?_;rintro e K ⟨⟨_,rfl,g,f,rfl,hq1,b⟩,d⟩;have r:=U0 (m.out.call d (b));clear d b m;have o1:=r.out.co.cell 2;have k:=r.out.co.opn 2;simp only [@gz Value] at o1
 go_upto_region 5 with fail
 clear o1 k;have p:=U0 (r.out.put 2 (vL g s.rs.length f));dsimp only [List.set_cons_zero,List.set_cons_succ] at p;generalize K.setCell (aA (w.heap.size+1+1) 2) (vL g s.rs.length f)=V5 at*;clear r;have Q:Hid (∀ v∈([vI s.wd,vL (some (aW V1 0)) s.ts.length s.ts.length,vL g s.rs.length f]:List Value),v.oneCell'=true):=by intro v hv;simp at hv;rcases hv with rfl|rfl|rfl<;>rfl
 go_wp2_with (first | (refine Z9 rfl (Y8 44 _ rfl (B:=w.heap.size+1+1) (j:=0) (cs:=[vI s.wd,vL (some (aW V1 0)) s.ts.length s.ts.length,vL g s.rs.length f]) rfl (fun q v e=>by rw [E8];exact (p.out.co.cell q).trans e) underlying44 rfl J3) ?_) | (refine Z8 rfl 44 _ _ rfl (B:=w.heap.size+1) (j:=0) rfl (vs:=[vI s.wd,vL (some (aW V1 0)) s.ts.length s.ts.length,vL g s.rs.length f]) rfl p.out.cr x9 Q.out J3 ?_;intro z I F))
 obtain ⟨b,d⟩:=p.out.end_ F;exact P7 (v:=.agg #[vI s.wd,vL (some (aW V1 0)) s.ts.length s.ts.length,vL g s.rs.length f]) (b_ (P:=prog) (ty:=44) rfl _ z (w.heap.size+1) [vI s.wd,vL (some (aW V1 0)) s.ts.length s.ts.length,vL g s.rs.length f] _ rfl I.blk underlying44 rfl J3) rfl ⟨⟨_,_,_,_,rfl,b.imp (fun u h=>⟨h.1.2,h.2⟩)⟩,d⟩
theorem c64 (x:Rn) (l:OA) (r:Nat) (w:World) (hl:x.ls.length<=1048576) (C:I9 w l x.ls):
 Calls prog 64 #[.agg #[.string x.nm,.int .i64 x.md,.string x.wt,.slice l x.ls.length r,.int .i64 x.cd,.string x.tx]] w fun e w'=>(∃ v,e=.returned (.agg #[.string x.nm,.int .i64 x.md,.string x.wt,v,.int .i64 x.cd,.string x.tx])/\Et w.heap.size w' I9 x.ls v)/\Bw w w':=by
 have R:=U0 C;clear C;go_enter func64,ntmps64
 go_upto_region 2 with fail
 have p:=U0 (Aj (w:=w) (ta:=94) (tr:=115) (ar:=[vS x.nm,vI x.md,vS x.wt,vL l x.ls.length r,vI x.cd,vS x.tx]) (zs:=[vE,vO,vE,vN,vO,vE]));generalize ((w.alloc (.cells #[vS x.nm,vI x.md,vS x.wt,vL l x.ls.length r,vI x.cd,vS x.tx] 94)).alloc (.cells #[vE,vO,vE,vN,vO,vE] 115)).alloc (.cells #[vE,vO,vE,vN,vO,vE] 115)=O at*;have a:=p.out.ca.cell 0;simp only [@gz Value] at a;have o1:=p.out.co.cell 0;have g:=p.out.co.opn 0;simp only [@gz Value] at o1
 go_upto_region 3 with fail
 clear o1 g;have k:=U0 (p.out.put 0 (vS x.nm));dsimp only [List.set_cons_zero,List.set_cons_succ] at k;generalize O.setCell (aA (w.heap.size+1+1) 0) (vS x.nm)=V1 at*;clear p;clear a;have a:=k.out.ca.cell 1;simp only [@gz Value] at a;have o1:=k.out.co.cell 1;have g:=k.out.co.opn 1;simp only [@gz Value] at o1
 go_upto_region 4 with fail
 clear o1 g;have i:=U0 (k.out.put 1 (vI x.md));dsimp only [List.set_cons_zero,List.set_cons_succ] at i;generalize V1.setCell (aA (w.heap.size+1+1) 1) (vI x.md)=N at*;clear k;clear a;have a:=i.out.ca.cell 2;simp only [@gz Value] at a;have o1:=i.out.co.cell 2;have g:=i.out.co.opn 2;simp only [@gz Value] at o1
 go_upto_region 5 with fail
 clear o1 g;have o:=U0 (i.out.put 2 (vS x.wt));dsimp only [List.set_cons_zero,List.set_cons_succ] at o;generalize N.setCell (aA (w.heap.size+1+1) 2) (vS x.wt)=L at*;clear i;clear a;have m:=o.out.ca.cell 3;simp only [@gz Value] at m
 go_wp2_with fail
 clear m;refine (c109 l r x.ls L hl (ZU (N7 R.out o.out.bel))).mono ?_;rintro e K ⟨⟨_,rfl,c,b,rfl,H,d⟩,f⟩;have s:=U0 (o.out.call f (d));clear f d o;have o1:=s.out.co.cell 3;have g:=s.out.co.opn 3;simp only [@gz Value] at o1
 go_upto_region 6 with fail
 clear o1 g;have n:=U0 (s.out.put 3 (vL c x.ls.length b));dsimp only [List.set_cons_zero,List.set_cons_succ] at n;generalize K.setCell (aA (w.heap.size+1+1) 3) (vL c x.ls.length b)=E at*;clear s;have m:=n.out.ca.cell 4;have a:=n.out.ca.cell 5;simp only [@gz Value] at m a
 go_wp2_with fail
 clear m a;refine (QZ x.cd x.tx E).mono ?_;rintro e J ⟨rfl,f⟩;have d:Kp E.heap.size J (fun _=>True):=fun _ _ _=>trivial;have y:=U0 (n.out.call f (d));clear f d n
 go_upto_region 7 with (refine Z8 rfl 103 _ _ rfl (B:=w.heap.size+1+1) (j:=4) rfl (vs:=[vI x.cd,vS x.tx]) rfl y.out.co (Bz rfl) (by intro v hv;simp at hv;rcases hv with rfl|rfl<;>rfl) J3 ?_;intro V7 D A;have t:=U0 (y.out.on (xs':=[vS x.nm,vI x.md,vS x.wt,vL c x.ls.length b,vI x.cd,vS x.tx]) A D);clear A D y)
 have Q:Hid (∀ v∈([vS x.nm,vI x.md,vS x.wt,vL c x.ls.length b,vI x.cd,vS x.tx]:List Value),v.oneCell'=true):=by intro v hv;simp at hv;rcases hv with rfl|rfl|rfl|rfl|rfl|rfl<;>rfl
 go_wp2_with (first | (refine Z9 rfl (Y8 115 _ rfl (B:=w.heap.size+1+1) (j:=0) (cs:=[vS x.nm,vI x.md,vS x.wt,vL c x.ls.length b,vI x.cd,vS x.tx]) rfl (fun q v e=>by rw [E8];exact (t.out.co.cell q).trans e) underlying115 rfl J3) ?_) | (refine Z8 rfl 115 _ _ rfl (B:=w.heap.size+1) (j:=0) rfl (vs:=[vS x.nm,vI x.md,vS x.wt,vL c x.ls.length b,vI x.cd,vS x.tx]) rfl t.out.cr x9 Q.out J3 ?_;intro z I F))
 obtain ⟨d,f⟩:=t.out.end_ F;exact P7 (v:=.agg #[vS x.nm,vI x.md,vS x.wt,vL c x.ls.length b,vI x.cd,vS x.tx]) (b_ (P:=prog) (ty:=115) rfl _ z (w.heap.size+1) [vS x.nm,vI x.md,vS x.wt,vL c x.ls.length b,vI x.cd,vS x.tx] _ rfl I.blk underlying115 rfl J3) rfl ⟨⟨_,rfl,_,_,rfl,H,d.imp (fun u h=>kV h.1.2)⟩,f⟩
theorem c32 (a:OA) (cap:Nat) (is:List Rn) (w:World) (hl:is.length<=1048576) (A:∀ i,(is.getD i Aa).ls.length<=1048576) (F:Dj w a is):
 Calls prog 32 #[.slice a is.length cap] w fun e w'=>(∃ v,e=.returned v/\Et w.heap.size w' Dj is v)/\Bw w w':=by
 obtain ⟨b,off,hc⟩:=P_ F;have HC:=U0 hc;have HS:=U0 A;clear hc F A;obtain ⟨Q,D,U,S,R⟩:=info_parts (show (prog.info? 115).map (fun i=>(i.zero,i.size,i.bytes))=some (some (.agg #[vE,vO,vE,vN,vO,vE]),6,88) from J3);have hmk:∀ u:World,(Instr.makeSlice 45 (vI (is.length:Int)) (vI (is.length:Int))).run prog u=
  .ok (vL (some (aW u 0)) is.length is.length) (u.alloc (.cells (zs [vE,vO,vE,vN,vO,vE] is.length).toArray 115)):=fun u=>by
  have h:=Vm (P:=prog) u 45 115 Q (.agg #[vE,vO,vE,vN,vO,vE]) underlying45 D U .i64 .i64 (is.length:Int) (is.length:Int) O0 (Ak _) (by rw [R];omega) O0;rw [<- Am];simpa [S,Value.cells] using h
 go_enter func32,ntmps32
 go_wp2_with fail
 go_loopw [4] (fun i wr=>∃ (k:Nat) (ps:List (Rn×Value)),k<=is.length/\i=.int .i64 k/\Below w.heap.size w wr/\Hid (ps.map Prod.fst=is.take k)/\Hid (Cl wr w.heap.size 115 (ps.flatMap Ht++zs [.string ⟨#[]⟩,.int .i64 0,.string ⟨#[]⟩,.slice none 0 0,.int .i64 0,.string ⟨#[]⟩] (is.length - k)))/\Hid (∀ p∈ps,Et (w.heap.size+1) wr I9 p.1.ls p.2)) (fun i _=>is.length - (intOf i).toNat)
 case atStart=>exact ⟨0,[],D5 _,rfl,o7,rfl,by show Cl _ _ _ _;simp only [Kq,M_,Rq];exact G6 _ _ _,fun p c=>absurd c Kt⟩
 case round=>
  obtain ⟨k,ps,hk,rfl,r,c,hc,H⟩:=hrel;by_cases g:k<is.length;rotate_left
  · have hd:Hid (Et w.heap.size wr Dj is (vL (some (aW w 0)) is.length is.length)):=by
     obtain rfl:k=is.length:=O0;have e:=c.out;rw [Uj] at e;refine ⟨_,_,rfl,Y9 _,fun u h1 h2=>.inr ⟨w.heap.size,0,rfl,m_ hc.out.lt h1,fun i D=>?_⟩⟩;obtain ⟨v,hv,hB⟩:=yJ (d:=Aa) (n:=6) (f:=Ht) (fun _=>rfl) ((h2 _ x9 hc.out.lt).trans hc.out) (i:=i) (by have:=P5 List.length e;simp at this;omega);rw [e] at hv hB;obtain ⟨a',c',J,_,C⟩:=H.out _ hv;dsimp only at J C;subst J;have Z:=C u h1 (fun q hq=>h2 q O0);exact ⟨a',c',hB,Z⟩
    go_wp2;go_ret;exact ⟨⟨_,rfl,hd.out⟩,r⟩
  obtain ⟨ha,Y,E⟩:=Nc HC.out g;subst ha;obtain ⟨N,L,I,gL⟩:=(E k g).below Y r;have GB:=U0 I;clear I;have V:=HS.out k;have X:Hid (ps.length=k):=by have h:=P5 List.length c.out;simp at h;show _=_;omega
  have W:Hid (∀ v:Value,(ps++[(is.getD k Aa,v)]).map Prod.fst=is.take (k+1)):=fun v=>by rw [Fg,c.out,pq,y9 g];simp [List.getD,y9 g]
  generalize is.getD k Aa=x at*;clear E
  go_wp2_with (refine Z9 rfl (Y8 94 _ rfl (B:=b) (j:=off+k*6) (cs:=Ht (x,vL N x.ls.length L)) rfl GB.out underlying94 rfl J3) ?_)
  refine (c64 x N L wr V gL).mono ?_;rintro e s ⟨⟨v,rfl,hv⟩,o⟩;have hB1:Bw w s:=G7 r o;have HC1:=U0 (hc.out.below o hc.out.lt);have HV:=U0 (hv.low (b':=w.heap.size+1) (by have:=hc.out.lt;omega));have HI1:Hid (∀ p∈ps,Et (w.heap.size+1) s I9 p.1.ls p.2):=fun p c=>(H.out p c).below o;have t:Hid ((ps.flatMap Ht).length=k*([vE,vO,vE,vN,vO,vE]:List Value).length):=by show _=_;rw [Jc (m:=6) (fun _=>rfl),X.out];rfl
  have HL:=U0 (Du (z:=[vE,vO,vE,vN,vO,vE]) (vs:=Ht (x,v)) (n:=is.length) t.out rfl g);have H1:Hid (∀ u∈Ht (x,v),u.oneCell'=true):=by
   have h:=hv.one;intro u y;simp [Ht] at y;rcases y with rfl|rfl|rfl|rfl|rfl|rfl<;>first | rfl | exact h
  have HP:Hid (∀ z,Cl z w.heap.size 115 (Zp (ps.flatMap Ht++zs [vE,vO,vE,vN,vO,vE] (is.length - k)) (k*6) (Ht (x,v)))->Cl z w.heap.size 115 ((ps++[(x,v)]).flatMap Ht++zs [vE,vO,vE,vN,vO,vE] (is.length - (k+1)))):=fun z h=>by rw [Dq,List.flatMap_singleton,<- au (z:=[vE,vO,vE,vN,vO,vE]) (vs:=Ht (x,v)) t.out rfl g];exact h
  clear hv
  go_wp2_with (refine Z8 rfl 115 _ _ rfl (B:=w.heap.size) (j:=k*6) rfl (vs:=Ht (x,v)) rfl HC1.out HL.out H1.out J3 ?_;intro z K l;have CZ:=U0 (HP.out z K);have bz:=hB1.trans (l.below x9);have O:=U0 l;clear K l)
  go_roundw
  case rel=>
   refine ⟨k+1,ps++[(x,v)],O0,by go_num,bz,W.out v,CZ,fun p c=>?_⟩;rcases jh.1 c with h | h
   · exact (HI1.out p h).on O.out O0
   rw [dw.1 h];exact HV.out.on O.out O0
  case measure=>simp [intOf];omega
theorem c27 (sa la:OA) (sc lc:Nat) (sf lo:LB) (w:World) (h1:sf.length<=1048576) (h2:lo.length<=1048576) (s:y8 w sa sf) (hl:y8 w la lo):
 Calls prog 27 #[.agg #[.slice sa sf.length sc,.slice la lo.length lc]] w fun e w'=>(∃ a c t A,e=.returned (.agg #[.slice a sf.length c,.slice t lo.length A])/\Kp w.heap.size w' fun u=>y8 u a sf/\y8 u t lo)/\Bw w w':=by
 have F:=U0 s;have E:=U0 hl;clear s hl;go_enter func27,ntmps27
 go_upto_region 2 with fail
 have o:=U0 (Aj (w:=w) (ta:=24) (tr:=38) (ar:=[vL sa sf.length sc,vL la lo.length lc]) (zs:=[vN,vN]));generalize ((w.alloc (.cells #[vL sa sf.length sc,vL la lo.length lc] 24)).alloc (.cells #[vN,vN] 38)).alloc (.cells #[vN,vN] 38)=d at*;have i:=o.out.ca.cell 0;simp only [@gz Value] at i
 go_wp2_with fail
 clear i;refine (c31 sa sc sf d h1 (Z5 F.out o.out.bel)).mono ?_;rintro e V1 ⟨⟨rfl,f⟩,g⟩;have p:=ax f x9;have n:=U0 (o.out.call g (p));clear g f o;have o1:=n.out.co.cell 0;have r:=n.out.co.opn 0;simp only [@gz Value] at o1
 go_upto_region 3 with fail
 clear o1 r;have k:=U0 (n.out.put 0 (vL (some (aW d 0)) sf.length sf.length));dsimp only [List.set_cons_zero,List.set_cons_succ] at k;generalize V1.setCell (aA (w.heap.size+1+1) 0) (vL (some (aW d 0)) sf.length sf.length)=b at*;clear n;have i:=k.out.ca.cell 1;simp only [@gz Value] at i
 go_wp2_with fail
 clear i;refine (c31 la lc lo b h2 (Z5 E.out k.out.bel)).mono ?_;rintro e C ⟨⟨rfl,f⟩,g⟩;have p:=ax f x9;have m:=U0 (k.out.call g (p));clear g f k;have o1:=m.out.co.cell 1;have r:=m.out.co.opn 1;simp only [@gz Value] at o1
 go_upto_region 4 with fail
 clear o1 r;have l:=U0 (m.out.put 1 (vL (some (aW b 0)) lo.length lo.length));dsimp only [List.set_cons_zero,List.set_cons_succ] at l;generalize C.setCell (aA (w.heap.size+1+1) 1) (vL (some (aW b 0)) lo.length lo.length)=V4 at*;clear m;have D:Hid (∀ v∈([vL (some (aW d 0)) sf.length sf.length,vL (some (aW b 0)) lo.length lo.length]:List Value),v.oneCell'=true):=by intro v hv;simp at hv;rcases hv with rfl|rfl<;>rfl
 go_wp2_with (first | (refine Z9 rfl (Y8 38 _ rfl (B:=w.heap.size+1+1) (j:=0) (cs:=[vL (some (aW d 0)) sf.length sf.length,vL (some (aW b 0)) lo.length lo.length]) rfl (fun q v e=>by rw [E8];exact (l.out.co.cell q).trans e) underlying38 rfl J3) ?_) | (refine Z8 rfl 38 _ _ rfl (B:=w.heap.size+1) (j:=0) rfl (vs:=[vL (some (aW d 0)) sf.length sf.length,vL (some (aW b 0)) lo.length lo.length]) rfl l.out.cr x9 D.out J3 ?_;intro z y x))
 obtain ⟨f,g⟩:=l.out.end_ x;exact P7 (v:=.agg #[vL (some (aW d 0)) sf.length sf.length,vL (some (aW b 0)) lo.length lo.length]) (b_ (P:=prog) (ty:=38) rfl _ z (w.heap.size+1) [vL (some (aW d 0)) sf.length sf.length,vL (some (aW b 0)) lo.length lo.length] _ rfl y.blk underlying38 rfl J3) rfl ⟨⟨_,_,_,_,rfl,f.imp (fun u h=>⟨h.1.2,h.2⟩)⟩,g⟩
theorem c9 (sa la:OA) (sc lc:Nat) (sf lo:LB) (l:Int) (w:World) (h0:0<=l) (h1:l<=1048576) (j:∀ i,(sf.getD i ByteArray.empty).size<=9223372036854775807) (g:∀ i,(lo.getD i ByteArray.empty).size<=9223372036854775807) (hl:sf.length<=9223372036854775807) (s:lo.length<=9223372036854775807) (m:y8 w sa sf) (k:y8 w la lo):
 Calls prog 9 #[.agg #[.slice sa sf.length sc,.slice la lo.length lc],.int .i64 l] w fun e w'=>(∃ r:Int,e=.returned (.int .i64 r)/\(0<=r->(∀ i,(sf.getD i ByteArray.empty).size<=1048576)/\(∀ i,(lo.getD i ByteArray.empty).size<=1048576)/\sf.length+lo.length<=1048576/\r<=l))/\Bw w w':=by
 have c:=U0 (o7 (w:=w) (o:=.cells #[vL sa sf.length sc,vL la lo.length lc] 24));have hc:=U0 (fun r a b=>c13 la lc lo r _ a b g s (Z5 k c.out));have hd:=c13 sa sc sf l _ h0 h1 j hl (Z5 m c.out);clear j g m k;go_enter func9,ntmps9
 go_wp2_with fail
 refine hd.mono ?_;rintro e n ⟨⟨r,rfl,hr⟩,rfl⟩;have u:=U0 hr;clear hd hr;by_cases p:r<0
 · go_wp2;go_ret;exact ⟨⟨-1,rfl,fun h=>O0⟩,c.out⟩
 obtain ⟨p1,f,p3⟩:=u.out O0;have x:=U0 f;clear f;have hd:=hc.out r O0 O0
 go_wp2_with fail
 refine hd.mono ?_;rintro e n ⟨⟨q,rfl,hr⟩,rfl⟩;have v:=U0 hr;clear hd hr hc;by_cases p:q<0
 · go_wp2;go_ret;exact ⟨⟨-1,rfl,fun h=>O0⟩,c.out⟩
 obtain ⟨q1,d,q3⟩:=v.out O0;have t:=U0 d;clear d;go_wp2;go_ret;exact ⟨⟨_,rfl,fun h=>⟨x.out,t.out,O0,O0⟩⟩,c.out⟩
def Rn.le (x:Rn) (B:Nat):Prop:=x.nm.size<=B/\x.wt.size<=B/\(x.ls.length<=B/\∀ i,(x.ls.getD i O_).le B)/\x.tx.size<=B
theorem c52 (x:Rn) (a:OA) (b:Nat) (l:Int) (w:World) (h0:0<=l) (h1:l<=1048576) (C:x.le 9223372036854775807) (j:I9 w a x.ls):
 Calls prog 52 #[.agg #[.string x.nm,.int .i64 x.md,.string x.wt,.slice a x.ls.length b,.int .i64 x.cd,.string x.tx],.int .i64 l] w fun e w'=>(∃ r:Int,e=.returned (.int .i64 r)/\(0<=r->x.le 1048576/\r<=1048576))/\Bw w w':=by
 obtain ⟨s1,s2,⟨A,g⟩,z⟩:=C;have f:=U0 (o7 (w:=w) (o:=.cells #[vS x.nm,vI x.md,vS x.wt,vL a x.ls.length b,vI x.cd,vS x.tx] 94));have d:=U0 (G6 w [vS x.nm,vI x.md,vS x.wt,vL a x.ls.length b,vI x.cd,vS x.tx] 94);have I:=U0 (N7 j f.out);have E:=U0 g;clear j g;have p:=d.out.cell 0;have a2:=d.out.cell 2;have n:=d.out.cell 3;simp only [@gz Value] at p a2 n;by_cases h:l<x.nm.size
 · go_enter func52,ntmps52
   go_upto_region 1 with fail
   generalize w.alloc (.cells #[vS x.nm,vI x.md,vS x.wt,vL a x.ls.length b,vI x.cd,vS x.tx] 94)=V at*;go_wp2;go_ret;exact ⟨⟨-1,rfl,fun h=>O0⟩,f.out⟩
 by_cases h2:l - x.nm.size<x.wt.size
 · go_enter func52,ntmps52
   go_upto_region 1 with fail
   generalize w.alloc (.cells #[vS x.nm,vI x.md,vS x.wt,vL a x.ls.length b,vI x.cd,vS x.tx] 94)=V at*;go_wp2;go_ret;exact ⟨⟨-1,rfl,fun h=>O0⟩,f.out⟩
 go_enter func52,ntmps52
 go_upto_region 1 with fail
 generalize w.alloc (.cells #[vS x.nm,vI x.md,vS x.wt,vL a x.ls.length b,vI x.cd,vS x.tx] 94)=V at*
 go_wp2_with fail
 refine (c93 a b x.ls (l - x.nm.size - x.wt.size) V O0 O0 E.out A I.out).mono ?_;rintro e y ⟨⟨r,rfl,hr⟩,c⟩;have F:=U0 hr;have v:=U0 (G7 f.out c);have t:=U0 (d.out.below c d.out.lt);clear hr c p a2 n;by_cases D:r<0
 · go_wp2;go_ret;exact ⟨⟨-1,rfl,fun h=>O0⟩,v.out⟩
 obtain ⟨B,i,p3⟩:=F.out O0;have H:=U0 i;clear i;have m:=t.out.cell 4;have k:=t.out.cell 5;simp only [@gz Value] at m k
 go_wp2_with fail
 refine (c94 x.cd x.tx r y z O0 O0).mono ?_;rintro e w2 ⟨⟨q,rfl,hr⟩,c⟩;have s:=U0 hr;have u:=U0 (G7 v.out c);clear hr c m k;by_cases D:q<0
 · go_wp2;go_ret;exact ⟨⟨-1,rfl,fun h=>O0⟩,u.out⟩
 go_wp2;go_ret;exact ⟨⟨_,rfl,fun h=>⟨⟨O0,O0,⟨B,H.out⟩,(s.out h).1⟩,by have:=(s.out h).2;omega⟩⟩,u.out⟩
theorem DX (B:Nat):Aa.le B:=⟨D5 _,D5 _,⟨D5 _,fun i=>⟨D5 _,D5 _⟩⟩,D5 _⟩
theorem c14 (a:OA) (J:Nat) (is:List Rn) (l:Int) (w:World) (h0:0<=l) (h1:l<=1048576) (n:∀ i,(is.getD i Aa).le 9223372036854775807) (hl:is.length<=9223372036854775807) (q:Dj w a is):
 Calls prog 14 #[.slice a is.length J,.int .i64 l] w fun e w'=>(∃ r:Int,e=.returned (.int .i64 r)/\(0<=r->is.length<=1048576/\(∀ i,(is.getD i Aa).le 1048576)/\r<=1048576))/\Bw w w':=by
 obtain ⟨b,off,hc⟩:=P_ q;have N:=U0 hc;have L:=U0 n;clear hc q n;by_cases hbig:l<is.length
 · go_enter func14,ntmps14;go_wp2;go_ret;exact ⟨⟨-1,rfl,fun h=>O0⟩,Z4 _ _⟩
 go_enter func14,ntmps14
 go_wp2_with fail
 go_loopw [1,5] (fun A i wr=>∃ (k:Nat) (r:Int),k<=is.length/\i=.int .i64 k/\A=.int .i64 r/\0<=r/\r<=1048576/\Hid (∀ i,i<k->(is.getD i Aa).le 1048576)/\Below w.heap.size w wr) (fun _ i _=>is.length - (intOf i).toNat)
 case atStart=>exact ⟨0,_,D5 _,rfl,rfl,O0,O0,fun i h=>absurd h (o9 _),Z4 _ _⟩
 case round=>
  obtain ⟨k,r,hk,rfl,rfl,E,D,m,g⟩:=hrel;by_cases o:k<is.length;rotate_left
  · have c:Hid (∀ i,(is.getD i Aa).le 1048576):=U0 (MR (is:=is) (d:=Aa) (R:=fun x=>x.le 1048576) (DX _) (fun i h=>m.out i O0));go_wp2;go_ret;exact ⟨⟨r,rfl,fun _=>⟨O0,c.out,D⟩⟩,g⟩
  obtain ⟨ha,F,p⟩:=Nc N.out o;subst ha;obtain ⟨v,u,t,I⟩:=(p k o).below F g;have O:=U0 t;clear t;have C:=L.out k;generalize hx:is.getD k Aa=x at*;have K:Hid (is.getD k Aa=x):=hx;clear hx p
  go_wp2_with (refine Z9 rfl (Y8 94 _ rfl (B:=b) (j:=off+k*6) (cs:=Ht (x,vL v x.ls.length u)) rfl O.out underlying94 rfl J3) ?_)
  refine (c52 x v u r wr E O0 C I).mono ?_;rintro e y ⟨⟨z,rfl,hr⟩,H⟩;have s:Bw w y:=G7 g H;by_cases hneg:z<0
  · clear hr;go_wp2;go_ret;exact ⟨⟨-1,rfl,fun h=>O0⟩,s⟩
  have f:=hr O0;have c:Hid (∀ i,i<k+1->(is.getD i Aa).le 1048576):=by
   intro i h;rcases o8 i k with h1 | h1
   · exact m.out i h1
   · obtain rfl:i=k:=O0;rw [K.out];exact f.1
  have hr2:=f.2;clear hr f;go_wp2;go_roundw
  case rel=>exact ⟨k+1,_,O0,by go_num,rfl,O0,O0,c,s⟩
  case measure=>simp [intOf];omega
theorem OT {b B:Nat} {w:World} {ss:List Int} (h:Df w (some ⟨B,0,none⟩) ss) (c:b<=B):Kp b w fun u=>Df u (some ⟨B,0,none⟩) ss:=fun z h1 h2=>by
 rcases h with h | ⟨q,o,e,hl,h⟩
 · exact .inl h
 cases e
 exact .inr ⟨B,0,rfl,O0,fun i a=>(iK (h2 B c hl) _).trans (h i a)⟩
structure Bs where
 wd:Int
 up:Bool
 now:Int
 ep:Int
 ed:Int
 sf:LB
 lo:LB
 fs:List T.F2
 s:St
 hd:List Int
 rt:LB
 rn:List Rn
 jb:List Jb
structure Ba where
 sa:OA
 sc:Nat
 la:OA
 lc:Nat
 fa:OA
 fc:Nat
 ta:OA
 tc:Nat
 ra:OA
 rc:Nat
 ha:OA
 hc:Nat
 oa:OA
 oc:Nat
 na:OA
 nc:Nat
 ja:OA
 jc:Nat
@[go_sem] abbrev bsV (b:Bs) (q:Ba):List Value:=[.int .i64 b.wd,.bool b.up,.int .i64 b.now,.int .i64 b.ep,.int .i64 b.ed,.slice q.sa b.sf.length q.sc,.slice q.la b.lo.length q.lc,.slice q.fa b.fs.length q.fc,.int .i64 b.s.wd,.slice q.ta b.s.ts.length q.tc,.slice q.ra b.s.rs.length q.rc,.slice q.ha b.hd.length q.hc,.slice q.oa b.rt.length q.oc,.slice q.na b.rn.length q.nc,.slice q.ja b.jb.length q.jc]
structure Dn (w:World) (b:Bs) (q:Ba):Prop where
 sf:y8 w q.sa b.sf
 lo:y8 w q.la b.lo
 fs:T.J6 w q.fa b.fs
 st:Zg w q.ta q.ra b.s
 hd:Df w q.ha b.hd
 rt:y8 w q.oa b.rt
 rn:Dj w q.na b.rn
 jb:Uk w q.ja b.jb
theorem Dn.below {w w':World} {b:Bs} {q:Ba} (h:Dn w b q) (a:Bw w w'):Dn w' b q:=⟨Z5 h.sf a,Z5 h.lo a,T.U5 h.fs a,h.st.below a,oh h.hd a,Z5 h.rt a,rf h.rn a,Xk h.jb a⟩
def KX (b:Bs) (q:Ba):Prop:=b.rt.length<=q.oc/\b.jb.length<=q.jc
structure Bo (b:Bs) (B:Nat):Prop where
 sl:b.sf.length<=B
 ss:∀ i,(b.sf.getD i ByteArray.empty).size<=B
 ll:b.lo.length<=B
 ls:∀ i,(b.lo.getD i ByteArray.empty).size<=B
 fl:b.fs.length<=B
 fz:∀ i,(b.fs.getD i T.P8).le B
 st:b.s.le B
 hl:b.hd.length<=B
 rl:b.rt.length<=B
 rs:∀ i,(b.rt.getD i ByteArray.empty).size<=B
 nl:b.rn.length<=B
 ns:∀ i,(b.rn.getD i Aa).le B
 jl:b.jb.length<=B
 js:∀ i,(b.jb.getD i Oc).nm.size<=B
theorem c6 (b:Bs) (q:Ba) (w:World) (hl:Bo b 1048576) (hat:Dn w b q):
 Calls prog 6 #[.agg (bsV b q).toArray] w fun e w'=>(∃ q',e=.returned (.agg (bsV b q').toArray)/\Dn w' b q'/\KX b q')/\Bw w w':=by
 have u:=U0 hat;have l:=U0 hl;clear hat hl;go_enter func6,ntmps6
 go_upto_region 2 with fail
 have U:=U0 (Aj (w:=w) (ta:=35) (tr:=48) (ar:=(bsV b q)) (zs:=[vO,.bool false,vO,vO,vO,vN,vN,vN,vO,vN,vN,vN,vN,vN,vN]));generalize ((w.alloc (.cells (bsV b q).toArray 35)).alloc (.cells #[vO,.bool false,vO,vO,vO,vN,vN,vN,vO,vN,vN,vN,vN,vN,vN] 48)).alloc (.cells #[vO,.bool false,vO,vO,vO,vN,vN,vN,vO,vN,vN,vN,vN,vN,vN] 48)=V0 at*;have a:=U.out.ca.cell 0;simp only [@gz Value] at a;have o1:=U.out.co.cell 0;have g:=U.out.co.opn 0;simp only [@gz Value] at o1
 go_upto_region 3 with fail
 clear o1 g;have O:=U0 (U.out.put 0 (vI b.wd));dsimp only [List.set_cons_zero,List.set_cons_succ] at O;generalize V0.setCell (aA (w.heap.size+1+1) 0) (vI b.wd)=V1 at*;clear U;clear a;have a:=O.out.ca.cell 1;simp only [@gz Value] at a;have o1:=O.out.co.cell 1;have g:=O.out.co.opn 1;simp only [@gz Value] at o1
 go_upto_region 4 with fail
 clear o1 g;have N:=U0 (O.out.put 1 (.bool b.up));dsimp only [List.set_cons_zero,List.set_cons_succ] at N;generalize V1.setCell (aA (w.heap.size+1+1) 1) (.bool b.up)=V2 at*;clear O;clear a;have a:=N.out.ca.cell 2;simp only [@gz Value] at a;have o1:=N.out.co.cell 2;have g:=N.out.co.opn 2;simp only [@gz Value] at o1
 go_upto_region 5 with fail
 clear o1 g;have L:=U0 (N.out.put 2 (vI b.now));dsimp only [List.set_cons_zero,List.set_cons_succ] at L;generalize V2.setCell (aA (w.heap.size+1+1) 2) (vI b.now)=V3 at*;clear N;clear a;have a:=L.out.ca.cell 3;simp only [@gz Value] at a;have o1:=L.out.co.cell 3;have g:=L.out.co.opn 3;simp only [@gz Value] at o1
 go_upto_region 6 with fail
 clear o1 g;have K:=U0 (L.out.put 3 (vI b.ep));dsimp only [List.set_cons_zero,List.set_cons_succ] at K;generalize V3.setCell (aA (w.heap.size+1+1) 3) (vI b.ep)=V4 at*;clear L;clear a;have a:=K.out.ca.cell 4;simp only [@gz Value] at a;have o1:=K.out.co.cell 4;have g:=K.out.co.opn 4;simp only [@gz Value] at o1
 go_upto_region 7 with fail
 clear o1 g;have I:=U0 (K.out.put 4 (vI b.ed));dsimp only [List.set_cons_zero,List.set_cons_succ] at I;generalize V4.setCell (aA (w.heap.size+1+1) 4) (vI b.ed)=V5 at*;clear K;clear a;have f:=I.out.ca.cell 5;have a:=I.out.ca.cell 6;simp only [@gz Value] at f a
 go_wp2_with fail
 clear f a;refine (c27 q.sa q.la q.sc q.lc b.sf b.lo V5 l.out.sl l.out.ll (Z5 u.out.sf I.out.bel) (Z5 u.out.lo I.out.bel)).mono ?_;rintro e V6 ⟨⟨a,k,a2,h,rfl,c⟩,d⟩;have H6:=U0 (I.out.call d (c));clear d c I
 go_upto_region 8 with (refine Z8 rfl 38 _ _ rfl (B:=w.heap.size+1+1) (j:=5) rfl (vs:=[vL a b.sf.length k,vL a2 b.lo.length h]) rfl H6.out.co (Bz rfl) (by intro v hv;simp at hv;rcases hv with rfl|rfl<;>rfl) J3 ?_;intro V7 o m;have V:=U0 (H6.out.on (xs':=[vI b.wd,.bool b.up,vI b.now,vI b.ep,vI b.ed,vL a b.sf.length k,vL a2 b.lo.length h,vN,vO,vN,vN,vN,vN,vN,vN]) m o);clear m o H6)
 have f:=V.out.ca.cell 7;simp only [@gz Value] at f
 go_wp2_with fail
 clear f;refine (c28 q.fa q.fc b.fs V7 l.out.fl (T.U5 u.out.fs V.out.bel)).mono ?_;rintro e V8 ⟨⟨p,n,rfl,c⟩,d⟩;have H8:=U0 (V.out.call d (c));clear d c V
 go_upto_region 9 with (refine Z8 rfl 41 _ _ rfl (B:=w.heap.size+1+1) (j:=7) rfl (vs:=[vL p b.fs.length n]) rfl H8.out.co (Bz rfl) (by intro v hv;simp at hv;rcases hv with rfl<;>rfl) J3 ?_;intro V9 o m;have J:=U0 (H8.out.on (xs':=[vI b.wd,.bool b.up,vI b.now,vI b.ep,vI b.ed,vL a b.sf.length k,vL a2 b.lo.length h,vL p b.fs.length n,vO,vN,vN,vN,vN,vN,vN]) m o);clear m o H8)
 have f:=J.out.ca.cell 8;have a:=J.out.ca.cell 9;have a2:=J.out.ca.cell 10;simp only [@gz Value] at f a a2
 go_wp2_with fail
 clear f a a2;refine (c29 q.ta q.ra q.tc q.rc b.s V9 l.out.st (u.out.st.below J.out.bel)).mono ?_;rintro e V10 ⟨⟨H,C,F,A,rfl,c⟩,d⟩;have H10:=U0 (J.out.call d (c));clear d c J
 go_upto_region 10 with (refine Z8 rfl 44 _ _ rfl (B:=w.heap.size+1+1) (j:=8) rfl (vs:=[vI b.s.wd,vL H b.s.ts.length C,vL F b.s.rs.length A]) rfl H10.out.co (Bz rfl) (by intro v hv;simp at hv;rcases hv with rfl|rfl|rfl<;>rfl) J3 ?_;intro t o m;have H11:=U0 (H10.out.on (xs':=[vI b.wd,.bool b.up,vI b.now,vI b.ep,vI b.ed,vL a b.sf.length k,vL a2 b.lo.length h,vL p b.fs.length n,vI b.s.wd,vL H b.s.ts.length C,vL F b.s.rs.length A,vN,vN,vN,vN]) m o);clear m o H10)
 have f:=H11.out.ca.cell 11;simp only [@gz Value] at f
 go_wp2_with fail
 clear f;refine (c30 q.ha q.hc b.hd t l.out.hl (oh u.out.hd H11.out.bel)).mono ?_;rintro e V12 ⟨⟨rfl,c⟩,d⟩;have hk2:=OT c x9;have H12:=U0 (H11.out.call d (hk2));clear d c H11;have o1:=H12.out.co.cell 11;have g:=H12.out.co.opn 11;simp only [@gz Value] at o1
 go_upto_region 11 with fail
 clear o1 g;have S:=U0 (H12.out.put 11 (vL (some (aW t 0)) b.hd.length b.hd.length));dsimp only [List.set_cons_zero,List.set_cons_succ] at S;generalize V12.setCell (aA (w.heap.size+1+1) 11) (vL (some (aW t 0)) b.hd.length b.hd.length)=r at*;clear H12;have f:=S.out.ca.cell 12;simp only [@gz Value] at f
 go_wp2_with fail
 clear f;refine (c31 q.oa q.oc b.rt r l.out.rl (Z5 u.out.rt S.out.bel)).mono ?_;rintro e V14 ⟨⟨rfl,c⟩,d⟩;have hk2:=ax c x9;have Z:=U0 (S.out.call d (hk2));clear d c S;have o1:=Z.out.co.cell 12;have g:=Z.out.co.opn 12;simp only [@gz Value] at o1
 go_upto_region 12 with fail
 clear o1 g;have R:=U0 (Z.out.put 12 (vL (some (aW r 0)) b.rt.length b.rt.length));dsimp only [List.set_cons_zero,List.set_cons_succ] at R;generalize V14.setCell (aA (w.heap.size+1+1) 12) (vL (some (aW r 0)) b.rt.length b.rt.length)=V15 at*;clear Z;have f:=R.out.ca.cell 13;simp only [@gz Value] at f
 go_wp2_with fail
 clear f;refine (c32 q.na q.nc b.rn V15 l.out.nl (fun i=>(l.out.ns i).2.2.1.1) (rf u.out.rn R.out.bel)).mono ?_;rintro e V16 ⟨⟨_,rfl,E,y,rfl,hq8,c⟩,d⟩;have Y:=U0 (R.out.call d (c));clear d c R;have o1:=Y.out.co.cell 13;have g:=Y.out.co.opn 13;simp only [@gz Value] at o1
 go_upto_region 13 with fail
 clear o1 g;have Q:=U0 (Y.out.put 13 (vL E b.rn.length y));dsimp only [List.set_cons_zero,List.set_cons_succ] at Q;generalize V16.setCell (aA (w.heap.size+1+1) 13) (vL E b.rn.length y)=V17 at*;clear Y;have f:=Q.out.ca.cell 14;simp only [@gz Value] at f
 go_wp2_with fail
 clear f;refine (c33 q.ja q.jc b.jb V17 l.out.jl (Xk u.out.jb Q.out.bel)).mono ?_;rintro e V18 ⟨⟨_,rfl,D,x,rfl,hq9,c⟩,d⟩;have X:=U0 (Q.out.call d (c));clear d c Q;have o1:=X.out.co.cell 14;have g:=X.out.co.opn 14;simp only [@gz Value] at o1
 go_upto_region 14 with fail
 clear o1 g;have W:=U0 (X.out.put 14 (vL D b.jb.length x));dsimp only [List.set_cons_zero,List.set_cons_succ] at W;generalize V18.setCell (aA (w.heap.size+1+1) 14) (vL D b.jb.length x)=V19 at*;clear X;have HON:Hid (∀ v∈([vI b.wd,.bool b.up,vI b.now,vI b.ep,vI b.ed,vL a b.sf.length k,vL a2 b.lo.length h,vL p b.fs.length n,vI b.s.wd,vL H b.s.ts.length C,vL F b.s.rs.length A,vL (some (aW t 0)) b.hd.length b.hd.length,vL (some (aW r 0)) b.rt.length b.rt.length,vL E b.rn.length y,vL D b.jb.length x]:List Value),v.oneCell'=true):=by intro v hv;simp at hv;rcases hv with rfl|rfl|rfl|rfl|rfl|rfl|rfl|rfl|rfl|rfl|rfl|rfl|rfl|rfl|rfl<;>rfl
 go_wp2_with (first | (refine Z9 rfl (Y8 48 _ rfl (B:=w.heap.size+1+1) (j:=0) (cs:=[vI b.wd,.bool b.up,vI b.now,vI b.ep,vI b.ed,vL a b.sf.length k,vL a2 b.lo.length h,vL p b.fs.length n,vI b.s.wd,vL H b.s.ts.length C,vL F b.s.rs.length A,vL (some (aW t 0)) b.hd.length b.hd.length,vL (some (aW r 0)) b.rt.length b.rt.length,vL E b.rn.length y,vL D b.jb.length x]) rfl (fun q v e=>by rw [E8];exact (W.out.co.cell q).trans e) underlying48 rfl J3) ?_) | (refine Z8 rfl 48 _ _ rfl (B:=w.heap.size+1) (j:=0) rfl (vs:=[vI b.wd,.bool b.up,vI b.now,vI b.ep,vI b.ed,vL a b.sf.length k,vL a2 b.lo.length h,vL p b.fs.length n,vI b.s.wd,vL H b.s.ts.length C,vL F b.s.rs.length A,vL (some (aW t 0)) b.hd.length b.hd.length,vL (some (aW r 0)) b.rt.length b.rt.length,vL E b.rn.length y,vL D b.jb.length x]) rfl W.out.cr x9 HON.out J3 ?_;intro z cz oz))
 obtain ⟨c,d⟩:=W.out.end_ oz;exact P7 (v:=.agg #[vI b.wd,.bool b.up,vI b.now,vI b.ep,vI b.ed,vL a b.sf.length k,vL a2 b.lo.length h,vL p b.fs.length n,vI b.s.wd,vL H b.s.ts.length C,vL F b.s.rs.length A,vL (some (aW t 0)) b.hd.length b.hd.length,vL (some (aW r 0)) b.rt.length b.rt.length,vL E b.rn.length y,vL D b.jb.length x]) (b_ (P:=prog) (ty:=48) rfl _ z (w.heap.size+1) [vI b.wd,.bool b.up,vI b.now,vI b.ep,vI b.ed,vL a b.sf.length k,vL a2 b.lo.length h,vL p b.fs.length n,vI b.s.wd,vL H b.s.ts.length C,vL F b.s.rs.length A,vL (some (aW t 0)) b.hd.length b.hd.length,vL (some (aW r 0)) b.rt.length b.rt.length,vL E b.rn.length y,vL D b.jb.length x] _ rfl cz.blk underlying48 rfl J3) rfl ⟨⟨⟨_,_,_,_,_,_,_,_,_,_,_,_,_,_,_,_,_,_⟩,rfl,by obtain ⟨⟨⟨⟨⟨⟨⟨_,h1⟩,h2⟩,h3⟩,h4⟩,h5⟩,h6⟩,h7⟩:=c.now;exact ⟨h1.1,h1.2,h2,h3,h4,h5,h6,h7⟩,Y9 _,hq9⟩,d⟩
theorem Wn {α:Type} {d:α} {x y:List α} (h:x.length=y.length) (hd:∀ j,j<x.length->x.getD j d=y.getD j d):x=y:=by
 apply ny h;intro i h1 h2;have e:=hd i h1;simpa [List.getD,h1,h2] using e
theorem c74 (a c:List Int) (x v:OA) (F E:Nat) (w:World) (hl:a.length<=1048576) (hl':c.length<=1048576) (t:Df w x a) (s:Df w v c):
 Calls prog 74 #[.slice x a.length F,.slice v c.length E] w fun e w'=>Rb (a=c) e/\Bw w w':=by
 by_cases d:a.length=c.length;rotate_left
 · have n:Hid (¬ a=c):=fun h=>d (by rw [h]);have hn1:¬ (a.length:Int)=c.length:=O0;go_enter func74,ntmps74;go_wp2;go_ret;exact ⟨G5 n.out,Z4 _ _⟩
 · rw [<- d];have m:=U0 d;clear d;obtain ⟨b,off,hc⟩:=vg t;obtain ⟨b',y,r⟩:=vg s;have K:=U0 hc;have J:=U0 r;clear hc r t s;go_enter func74,ntmps74
   go_wp2_with fail
   go_loopw [13] (fun i wr=>∃ (k:Nat),k<=a.length/\i=.int .i64 k/\Hid (∀ j,j<k->a.getD j 0=c.getD j 0)/\Below w.heap.size w wr) (fun i _=>a.length - (intOf i).toNat)
   case atStart=>exact ⟨0,D5 _,rfl,fun j h=>absurd h (o9 _),Z4 _ _⟩
   case round=>
    obtain ⟨k,hk2,rfl,hd,l⟩:=hrel;have u:=l;by_cases g:k<a.length
    · obtain ⟨ha,B,q⟩:=Nc K.out g;rcases J.out with z | ⟨C,A,o⟩
      · have d:=m.out;rw [z] at d;rw [d] at g;exact absurd g (o9 _)
      subst ha;subst C;have g0:=(l.cell (p:=(aA b (off+k))) B).trans (q k g);have D:=(l.cell (p:=(aA b' (y+k))) A).trans (o k (by have:=m.out;omega));clear q o;by_cases f:a.getD k 0=c.getD k 0
      · have I:Hid (∀ j,j<k+1->a.getD j 0=c.getD j 0):=fun j hj=>by
         rcases o8 j k with h | h
         · exact hd.out j h
         · obtain rfl:j=k:=O0;exact f
        rw [<- f] at D;generalize a.getD k 0=X at*;clear f hd
        go_wp2_with fail
        go_region
        all_goals go_wp2
        all_goals go_roundw
        all_goals first
         | exact ⟨k+1,O0,by go_num,I,l.drew⟩
         | (simp [intOf];omega)
      · have n:Hid (¬ a=c):=fun h=>f (by rw [h]);generalize a.getD k 0=X at*;generalize c.getD k 0=Y at*;have hg':(X==Y)=false:=by simpa using f
        go_wp2_with fail
        go_region
        all_goals go_wp2
        all_goals go_ret
        all_goals exact ⟨G5 n.out,u.drew⟩
    · obtain rfl:k=a.length:=O0;have H:Hid (a=c):=by
       exact Wn m.out hd.out
      go_wp2;go_ret;exact ⟨C_ H.out,u⟩
theorem a0V (a c:LB) (x v:OA) (F E:Nat) (w:World) (hl:a.length<=1048576) (hl':c.length<=1048576) (t:y8 w x a) (s:y8 w v c):
 Calls prog 123 #[.slice x a.length F,.slice v c.length E] w fun e w'=>Rb (a=c) e/\Bw w w':=by
 by_cases d:a.length=c.length;rotate_left
 · have n:Hid (¬ a=c):=fun h=>d (by rw [h]);have hn1:¬ (a.length:Int)=c.length:=O0;go_enter func123,ntmps123;go_wp2;go_ret;exact ⟨G5 n.out,Z4 _ _⟩
 · rw [<- d];have m:=U0 d;clear d;obtain ⟨b,off,hc⟩:=Q_ t;obtain ⟨b',y,r⟩:=Q_ s;have K:=U0 hc;have J:=U0 r;clear hc r t s;go_enter func123,ntmps123
   go_wp2_with fail
   go_loopw [13] (fun i wr=>∃ (k:Nat),k<=a.length/\i=.int .i64 k/\Hid (∀ j,j<k->a.getD j ByteArray.empty=c.getD j ByteArray.empty)/\Below w.heap.size w wr) (fun i _=>a.length - (intOf i).toNat)
   case atStart=>exact ⟨0,D5 _,rfl,fun j h=>absurd h (o9 _),Z4 _ _⟩
   case round=>
    obtain ⟨k,hk2,rfl,hd,l⟩:=hrel;have u:=l;by_cases g:k<a.length
    · obtain ⟨ha,B,q⟩:=Nc K.out g;rcases J.out with z | ⟨C,A,o⟩
      · have d:=m.out;rw [z] at d;rw [d] at g;exact absurd g (o9 _)
      subst ha;subst C;have g0:=(l.cell (p:=(aA b (off+k))) B).trans (q k g);have D:=(l.cell (p:=(aA b' (y+k))) A).trans (o k (by have:=m.out;omega));clear q o;by_cases f:a.getD k ByteArray.empty=c.getD k ByteArray.empty
      · have I:Hid (∀ j,j<k+1->a.getD j ByteArray.empty=c.getD j ByteArray.empty):=fun j hj=>by
         rcases o8 j k with h | h
         · exact hd.out j h
         · obtain rfl:j=k:=O0;exact f
        rw [<- f] at D;generalize a.getD k ByteArray.empty=X at*;clear f hd
        go_wp2_with fail
        go_region
        all_goals go_wp2
        all_goals go_roundw
        all_goals first
         | exact ⟨k+1,O0,by go_num,I,l.drew⟩
         | (simp [intOf];omega)
      · have n:Hid (¬ a=c):=fun h=>f (by rw [h]);generalize a.getD k ByteArray.empty=X at*;generalize c.getD k ByteArray.empty=Y at*;have q':(X.toList==Y.toList)=false:=n_.2 (Zb f)
        go_wp2_with fail
        go_region
        all_goals go_wp2
        all_goals go_ret
        all_goals exact ⟨G5 n.out,u.drew⟩
    · obtain rfl:k=a.length:=O0;have H:Hid (a=c):=by
       exact Wn m.out hd.out
      go_wp2;go_ret;exact ⟨C_ H.out,u⟩
theorem c76 (a c:List T.F2) (B A:OA) (L K:Nat) (w:World) (hl:a.length<=1048576) (hl':c.length<=1048576) (z:T.J6 w B a) (y:T.J6 w A c):
 Calls prog 76 #[.slice B a.length L,.slice A c.length K] w fun e w'=>Rb (a=c) e/\Bw w w':=by
 by_cases d:a.length=c.length;rotate_left
 · have n:Hid (¬ a=c):=fun h=>d (by rw [h]);have hn1:¬ (a.length:Int)=c.length:=O0;go_enter func76,ntmps76;go_wp2;go_ret;exact ⟨G5 n.out,Z4 _ _⟩
 · rw [<- d];have m:=U0 d;clear d;obtain ⟨b,off,hc⟩:=T.h_ z;obtain ⟨b',t,u⟩:=T.h_ y;have Q:=U0 hc;have P:=U0 u;clear hc u z y;go_enter func76,ntmps76
   go_wp2_with fail
   go_loopw [13] (fun i wr=>∃ (k:Nat),k<=a.length/\i=.int .i64 k/\Hid (∀ j,j<k->a.getD j T.P8=c.getD j T.P8)/\Below w.heap.size w wr) (fun i _=>a.length - (intOf i).toNat)
   case atStart=>exact ⟨0,D5 _,rfl,fun j h=>absurd h (o9 _),Z4 _ _⟩
   case round=>
    obtain ⟨k,hk2,rfl,hd,g⟩:=hrel;have r:=g;by_cases l:k<a.length
    · obtain ⟨ha,x,q⟩:=Nc Q.out l;rcases P.out with F | ⟨H,v,o⟩
      · have d:=m.out;rw [F] at d;rw [d] at l;exact absurd l (o9 _)
      subst ha;subst H;have g0:=(g.cell (p:=(aA b (off+k*2))) x).trans ((q k l).1);have g1:=(g.cell (p:=(aA b (off+k*2+1))) x).trans ((q k l).2);have J:=(g.cell (p:=(aA b' (t+k*2))) v).trans ((o k (by have:=m.out;omega)).1);have I:=(g.cell (p:=(aA b' (t+k*2+1))) v).trans ((o k (by have:=m.out;omega)).2);clear q o;by_cases f:a.getD k T.P8=c.getD k T.P8
      · have O:Hid (∀ j,j<k+1->a.getD j T.P8=c.getD j T.P8):=fun j hj=>by
         rcases o8 j k with h | h
         · exact hd.out j h
         · obtain rfl:j=k:=O0;exact f
        rw [<- f] at J I;generalize a.getD k T.P8=X at*;clear f hd
        go_wp2_with fail
        go_region
        all_goals go_wp2
        all_goals go_roundw
        all_goals first
         | exact ⟨k+1,O0,by go_num,O,g.drew⟩
         | (simp [intOf];omega)
      · have n:Hid (¬ a=c):=fun h=>f (by rw [h]);generalize a.getD k T.P8=X at*;generalize c.getD k T.P8=Y at*;obtain ⟨t1,D⟩:=X;obtain ⟨t2,C⟩:=Y;by_cases s:t1=t2
        · subst s;have E:¬ D=C:=fun h=>f (by rw [h]);have q3':=Zb E;clear f
          go_wp2_with fail
          go_region
          all_goals go_wp2
          all_goals go_ret
          all_goals exact ⟨G5 n.out,r.drew⟩
        · have q2':=Zb s;clear f
          go_wp2_with fail
          go_region
          all_goals go_wp2
          all_goals go_ret
          all_goals exact ⟨G5 n.out,r.drew⟩
    · obtain rfl:k=a.length:=O0;have N:Hid (a=c):=by
       exact Wn m.out hd.out
      go_wp2;go_ret;exact ⟨C_ N.out,r⟩
theorem c21 (a c:List T.F2) (n d:OA) (o m:Nat) (w:World) (hl:a.length<=1048576) (hl':c.length<=1048576) (I:T.J6 w n a) (H:T.J6 w d c):
 Calls prog 21 #[.agg #[.slice n a.length o],.agg #[.slice d c.length m]] w fun e w'=>Rb (a=c) e/\Bw w w':=by
 go_enter func21,ntmps21
 go_upto_region 1 with fail
 have A:=U0 (Oa (G6 w [vL n a.length o] 41) (.cells #[vL d c.length m] 41));have z:Hid (Cl ((w.alloc (.cells #[vL n a.length o] 41)).alloc (.cells #[vL d c.length m] 41)) (w.heap.size+1) 41 [vL d c.length m]):=by show Cl _ _ _ _;have h:=G6 (w.alloc (.cells #[vL n a.length o] 41)) [vL d c.length m] 41;simpa using h
 have J:Hid (Bw w ((w.alloc (.cells #[vL n a.length o] 41)).alloc (.cells #[vL d c.length m] 41))):=o7.alloc I4 _;generalize (w.alloc (.cells #[vL n a.length o] 41)).alloc (.cells #[vL d c.length m] 41)=V at*;have y:=A.out.cell 0;have s:=z.out.cell 0;simp only [@gz Value] at y s;by_cases f:a.length=c.length;rotate_left
 · have u:Hid (¬ a=c):=fun h=>f (by rw [h]);have hn1:¬ (a.length:Int)=c.length:=O0;go_wp2;go_ret;exact ⟨G5 u.out,J.out⟩
 have t:=U0 f;rw [<- f] at s;obtain ⟨b,off,hc⟩:=T.h_ I;obtain ⟨b',C,D⟩:=T.h_ H;have HC:=U0 hc;have HC':=U0 D;have S:=U0 A.out.lt;have U:=U0 z.out.lt;clear hc D I H A z f
 go_wp2_with fail
 go_loopw [5] (fun i wr=>∃ (k:Nat),k<=a.length/\i=.int .i64 k/\Hid (∀ j,j<k->a.getD j T.P8=c.getD j T.P8)/\Below V.heap.size V wr) (fun i _=>a.length - (intOf i).toNat)
 case atStart=>exact ⟨0,D5 _,rfl,fun j h=>absurd h (o9 _),Z4 _ _⟩
 case round=>
  obtain ⟨k,hk2,rfl,hd,r⟩:=hrel
  replace y:=(r.cell (p:=(aW w 0)) S.out).trans y
  replace s:=(r.cell (p:=(aA (w.heap.size+1) 0)) U.out).trans s
  have l:=U0 (G7 J.out r);by_cases q:k<a.length;rotate_left
  · obtain rfl:k=a.length:=O0;have W:Hid (a=c):=Wn t.out hd.out;go_wp2;go_ret;exact ⟨C_ W.out,l.out⟩
  obtain ⟨ha,F,x⟩:=Nc HC.out q;rcases HC'.out with O | ⟨P,E,v⟩
  · have f:=t.out;rw [O] at f;rw [f] at q;exact absurd q (o9 _)
  subst ha;subst P;have g0:=(l.out.cell (p:=(aA b (off+k*2))) F).trans (x k q).1;have g1:=(l.out.cell (p:=(aA b (off+k*2+1))) F).trans (x k q).2;have R:=(l.out.cell (p:=(aA b' (C+k*2))) E).trans (v k (by have:=t.out;omega)).1;have Q:=(l.out.cell (p:=(aA b' (C+k*2+1))) E).trans (v k (by have:=t.out;omega)).2;clear x v;by_cases g:a.getD k T.P8=c.getD k T.P8
  · have Z:Hid (∀ j,j<k+1->a.getD j T.P8=c.getD j T.P8):=fun j hj=>by
     rcases o8 j k with h | h
     · exact hd.out j h
     · obtain rfl:j=k:=O0;exact g
    rw [<- g] at R Q;generalize a.getD k T.P8=X at*;clear g hd
    go_wp2_with fail
    go_region
    all_goals go_wp2
    all_goals go_roundw
    all_goals first
     | exact ⟨k+1,O0,by go_num,Z,r.drew⟩
     | (simp [intOf];omega)
  have u:Hid (¬ a=c):=fun h=>g (by rw [h]);generalize a.getD k T.P8=X at*;generalize c.getD k T.P8=Y at*;obtain ⟨t1,L⟩:=X;obtain ⟨t2,K⟩:=Y;by_cases B:t1=t2
  · subst B;have N:¬ L=K:=fun h=>g (by rw [h]);have q3':=Zb N;clear g
    go_wp2_with fail
    go_region
    all_goals go_wp2
    all_goals go_ret
    all_goals exact ⟨G5 u.out,l.out.drew⟩
  · have q2':=Zb B;clear g
    go_wp2_with fail
    go_region
    all_goals go_wp2
    all_goals go_ret
    all_goals exact ⟨G5 u.out,l.out.drew⟩
