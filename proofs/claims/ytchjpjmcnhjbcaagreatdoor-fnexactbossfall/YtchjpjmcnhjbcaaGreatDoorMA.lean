import Derived.Test.YtchjpjmcnhjbcaaGreatDooreQD
import Derived.Test.YtchjpjmcnhjbcaaGreatDoorM9
set_option linter.unusedVariables false
set_option maxHeartbeats 8000000
set_option maxRecDepth 100000
namespace Go.Proofs.YtchjpjmcnhjbcaaGreatDoor
open Proofs.Tryz Go.RowKit Go.Maps
variable {l:List (ByteArray×Value)} {ts:LB} {B H b bP bR bT k:Nat} {W:Int} {rs:List R3} {rv:List Value} {w w':World} {gs:List G3}
theorem a1a {x:BY} {c:Int} {u:List UInt8} (w:World) (d:x.size<=1048700) (hm:Dc w) (h:fD x.data.toList c u true):
 Calls prog 150 #[.string x] w fun e w'=>e=.returned (.tuple #[.agg #[.int .i64 (hC x),.string (hT x)],.bool true])/\Bw w w':=by
 have a:=a3k x.data.toList w (by simpa using d) hm;rw [bn] at a;refine a.mono ?_;rintro e w' ⟨⟨c',t',ok,rfl,hr,_⟩,f⟩;obtain ⟨rfl,rfl,rfl⟩:=WJ hr h;obtain ⟨e1,b⟩:=xJ h;rw [bn] at e1 b;exact ⟨by rw [e1,b],f⟩
theorem yM {x:BY×Value} (h:∀ p∈l,Zq p.1 x.1=true):yg x l=l++[x]:=by
 induction l with
 | nil=>rfl
 | cons y r ih=>
  unfold yg;have a:=h y (Zp ..);have:Zq x.1 y.1=false:=by
   cases hq:Zq x.1 y.1 with
   | false=>rfl
   | true=>have:=Az a hq;rw [Wl] at this;cases this
  rw [this,ih (fun p b=>h p (Rf _ b))];simp
theorem QN (h:k<ts.length):ts.take (k+1)=ts.take k++[ts.getD k ByteArray.empty]:=by
 rw [Sr,Z8 h];simp [List.getD,Z8 h]
theorem EC (h:Wh W ts) (k:Nat):Wh W (ts.take k):=by
 unfold Wh Asc at h ⊢;rw [List.map_take];exact h.sublist (List.take_sublist _ _)
theorem QR (h:Wh W ts) {k:Nat} (c:k<ts.length):(mapD ((ts.take k).map (gT W))).put (kS (Z5 (ts.getD k ByteArray.empty) W)) (.held (hV (ts.getD k ByteArray.empty)))=mapD ((ts.take (k+1)).map (gT W)):=by
 have hA:=EC h (k+1);rw [QN c] at hA ⊢;unfold Wh Asc at hA;rw [Og,List.pairwise_append] at hA;have b:∀ p∈(ts.take k).map (gT W),Zq p.1 (Z5 (ts.getD k ByteArray.empty) W)=true:=fun p a=>hA.2.2 p a (gT W (ts.getD k ByteArray.empty)) X4;rw [KA _ (Y_.2 (fun p a e=>by have:=b p a;rw [e,Wl] at this;cases this))];rw [yM (x:=(Z5 (ts.getD k ByteArray.empty) W,hV (ts.getD k ByteArray.empty))) b,Og];rfl
theorem ShR.WY {pl:List (ByteArray×Value)} (h:ShR B rs rv pl w) (b:w.grownBy w' (some bT)) (hC:VA B H bT bR bP W l rv pl w):ShR B rs rv pl w':=by
 obtain ⟨es,ck,a⟩:=Nh hC.tx;exact h.map b hC.hT a
theorem a0j {o:Nat} {x:R3} (h:BB w b o x) (d:Bw w w') (e:b<w.heap.size):∃ c a,w'.cell? ⟨b,o,none⟩=some (.string x.key)/\w'.cell? ⟨b,o+1,none⟩=some (.slice c x.gs.length a)/\w'.cell? ⟨b,o+2,none⟩=some (.string x.out)/\jB w.heap.size w' (.agg #[.string x.key,.slice c x.gs.length a,.string x.out]) x:=by
 obtain ⟨c,a,h0,h1,h2,f⟩:=h;refine ⟨c,a,(d.cell (p:=(aA b o)) e).trans h0,(d.cell (p:=(aA b (o+1))) e).trans h1,(d.cell (p:=(aA b (o+2))) e).trans h2,c,a,rfl,P8 f d,?_⟩;rcases f with h | ⟨b',off,ha,hl,_⟩
 · exact .inl h
 · exact .inr ⟨b',off,ha,.inl hl⟩
theorem iO (h:k<rs.length):rs.take (k+1)=rs.take k++[rs.getD k f_]:=by
 rw [Sr,Z8 h];simp [List.getD,Z8 h]
theorem Sh.below (h:Sh B H bT bR bP W l rs rv w) (a:Bw w w'):Sh B H bT bR bP W l rs rv w':=by
 obtain ⟨pl,h1,h2⟩:=h;exact ⟨pl,h1.below a,h2.below a⟩
def a3C (s:St) (w w':World) (e:Ending):Prop:=∃ H bT bR bP rv,e=.returned (.pointer (some ⟨H,0,none⟩))/\Sh w.heap.size H bT bR bP s.wd (s.ts.map (gT s.wd)) s.rs rv w'
theorem c109 (s:St) (ta ra:OA) (tc rc:Nat) (w:World) (f:Xg s) (hs:s.le 1048576) (L:Ig w ta ra s) (hm:Dc w):
 Calls prog 109 #[.agg #[.int .i64 s.wd,.slice ta s.ts.length tc,.slice ra s.rs.length rc]] w fun e w'=>a3C s w w' e/\Bw w w':=by
 have hm0:=hm.1;have HA:=U0 (Dl f);have HT:=U0 f.2.1.2;have htl:=f.2.1.1;have HWD:=U0 f.1;have hrl:=f.2.2.1;have HRO:=U0 f.2.2.2;have HSZ:=U0 hs.1.2;have HM:=U0 hm;obtain ⟨b,off,hc⟩:=K_ L.1;have HC:=U0 hc;have HR:=U0 L.2;have hmm:=@run_makeMap prog;have sz4:(((((w.alloc (.cells #[vI s.wd,vL ta s.ts.length tc,vL ra s.rs.length rc] 43)).alloc (.map #[] 0)).alloc (.map #[] 0)).alloc (.map #[] 0)).alloc (.cells #[vI s.wd,.map (some (w.heap.size+1)),.map (some (w.heap.size+2)),.map (some (w.heap.size+3))] 213)).heap.size=w.heap.size+5:=X4;have B0:Bw w (((((w.alloc (.cells #[vI s.wd,vL ta s.ts.length tc,vL ra s.rs.length rc] 43)).alloc (.map #[] 0)).alloc (.map #[] 0)).alloc (.map #[] 0)).alloc (.cells #[vI s.wd,.map (some (w.heap.size+1)),.map (some (w.heap.size+2)),.map (some (w.heap.size+3))] 213)):=(((P6.alloc X4 _).alloc U7 _).alloc U7 _).alloc U7 _;have s0:(w.alloc (.cells #[vI s.wd,vL ta s.ts.length tc,vL ra s.rs.length rc] 43)).heap.size=w.heap.size+1:=X4;have s1:((w.alloc (.cells #[vI s.wd,vL ta s.ts.length tc,vL ra s.rs.length rc] 43)).alloc (.map #[] 0)).heap.size=w.heap.size+2:=X4;have s2:(((w.alloc (.cells #[vI s.wd,vL ta s.ts.length tc,vL ra s.rs.length rc] 43)).alloc (.map #[] 0)).alloc (.map #[] 0)).heap.size=w.heap.size+3:=X4;have s3:((((w.alloc (.cells #[vI s.wd,vL ta s.ts.length tc,vL ra s.rs.length rc] 43)).alloc (.map #[] 0)).alloc (.map #[] 0)).alloc (.map #[] 0)).heap.size=w.heap.size+4:=X4;have J:=World.ownsMap_made (w.alloc (.cells #[vI s.wd,vL ta s.ts.length tc,vL ra s.rs.length rc] 43)) prog 9 Ja;have I:=World.ownsMap_made ((w.alloc (.cells #[vI s.wd,vL ta s.ts.length tc,vL ra s.rs.length rc] 43)).alloc (.map #[] 0)) prog 3 Ja;have H:=World.ownsMap_made (((w.alloc (.cells #[vI s.wd,vL ta s.ts.length tc,vL ra s.rs.length rc] 43)).alloc (.map #[] 0)).alloc (.map #[] 0)) prog 9 Ja;have P:=Z7 ((((w.alloc (.cells #[vI s.wd,vL ta s.ts.length tc,vL ra s.rs.length rc] 43)).alloc (.map #[] 0)).alloc (.map #[] 0)).alloc (.map #[] 0)) [vI s.wd,.map (some (w.heap.size+1)),.map (some (w.heap.size+2)),.map (some (w.heap.size+3))] 213;have D:=Gi ((((w.alloc (.cells #[vI s.wd,vL ta s.ts.length tc,vL ra s.rs.length rc] 43)).alloc (.map #[] 0)).alloc (.map #[] 0)).alloc (.map #[] 0)) #[vI s.wd,.map (some (w.heap.size+1)),.map (some (w.heap.size+2)),.map (some (w.heap.size+3))] 213;rw [s0] at J;rw [s1] at I;rw [s2] at H;rw [s3] at P D;have C0:Hid (VA w.heap.size (w.heap.size+4) (w.heap.size+1) (w.heap.size+2) (w.heap.size+3) s.wd ((s.ts.take 0).map (gT s.wd)) [] [] (((((w.alloc (.cells #[vI s.wd,vL ta s.ts.length tc,vL ra s.rs.length rc] 43)).alloc (.map #[] 0)).alloc (.map #[] 0)).alloc (.map #[] 0)).alloc (.cells #[vI s.wd,.map (some (w.heap.size+1)),.map (some (w.heap.size+2)),.map (some (w.heap.size+3))] 213))):=U0 ⟨O0,O0,O0,O0,O0,O0,O0,O0,P,(J.alloc _).alloc _ |>.alloc _,List.Pairwise.nil,(I.alloc _).alloc _,H.alloc _,List.Pairwise.nil,D⟩;have R0:Hid (ShR w.heap.size [] [] [] (((((w.alloc (.cells #[vI s.wd,vL ta s.ts.length tc,vL ra s.rs.length rc] 43)).alloc (.map #[] 0)).alloc (.map #[] 0)).alloc (.map #[] 0)).alloc (.cells #[vI s.wd,.map (some (w.heap.size+1)),.map (some (w.heap.size+2)),.map (some (w.heap.size+3))] 213))):=U0 ⟨rfl,fun i h=>absurd h (J8 _),fun k v e=>by simp [T_] at e,fun k _=>rfl,fun k k' v v' _ e=>by simp [T_] at e,v_ _⟩;have V:Hid (D5 (((((w.alloc (.cells #[vI s.wd,vL ta s.ts.length tc,vL ra s.rs.length rc] 43)).alloc (.map #[] 0)).alloc (.map #[] 0)).alloc (.map #[] 0)).alloc (.cells #[vI s.wd,.map (some (w.heap.size+1)),.map (some (w.heap.size+2)),.map (some (w.heap.size+3))] 213)) w.heap.size [vI s.wd,vL ta s.ts.length tc,vL ra s.rs.length rc]):=U0 ((Z7 w [vI s.wd,vL ta s.ts.length tc,vL ra s.rs.length rc] 43).below (N:=w.heap.size+1) (((((Z4 _ _).alloc X4 _).alloc X4 _).alloc X4 _).alloc X4 _) O0);have y0:=V.out 0 _ rfl;have y1:=V.out 1 _ rfl;clear f hs L hm hc J I H P D;go_enter func109,ntmps109
 go_wp2_with fail
 generalize (((((w.alloc (.cells #[vI s.wd,vL ta s.ts.length tc,vL ra s.rs.length rc] 43)).alloc (.map #[] 0)).alloc (.map #[] 0)).alloc (.map #[] 0)).alloc (.cells #[vI s.wd,.map (some (w.heap.size+1)),.map (some (w.heap.size+2)),.map (some (w.heap.size+3))] 213))=U4 at*;go_loopw [20] (fun i wr=>∃ (k:Nat),k<=s.ts.length/\i=.int .i64 k/\Hid (VA w.heap.size (w.heap.size+4) (w.heap.size+1) (w.heap.size+2) (w.heap.size+3) s.wd ((s.ts.take k).map (gT s.wd)) [] [] wr)/\Hid (ShR w.heap.size [] [] [] wr)/\Hid (D5 wr w.heap.size [.int .i64 s.wd,.slice ta s.ts.length tc,.slice ra s.rs.length rc])/\Below w.heap.size w wr/\w.heap.size+5<=wr.heap.size) (fun i _=>s.ts.length - (Go.RowKit.intOf i).toNat)
 case atStart=>exact ⟨0,J4 _,rfl,C0,R0,V,B0,O0⟩
 case round=>
  obtain ⟨k,hk,rfl,z,y,r,B,szr⟩:=hrel;by_cases a:k<s.ts.length
  · obtain ⟨ha,hbw,hcell⟩:=Cc HC.out a;subst ha;have g0:=(B.cell (p:=(aA b (off+k))) hbw).trans (hcell k a);obtain ⟨cc,tt,hI⟩:=(HT.out k a).1;have hxs:=HSZ.out k;have a5J:=U0 (QR HA.out a);have a5K:=U0 (EC HA.out (k+1));have HNL:Hid (((s.ts.take k).map (gT s.wd)).length<maxLen):=by show _<_;simp;unfold maxLen;omega
    have HKM:Hid ((Z5 (s.ts.getD k ByteArray.empty) s.wd).size<=maxLen):=by show _<=_;have:=Lp (s:=s.ts.getD k ByteArray.empty) HWD.out;have:=HWD.out;unfold maxLen;omega
    generalize hx:s.ts.getD k ByteArray.empty=x at*;clear hx hcell;have hx7:x.size<=1048700:=O0;have h57:=a1a wr hx7 (x9 HM.out B) hI;clear hI
    go_wp2_with fail
    refine h57.mono ?_;rintro e u1 ⟨rfl,q⟩;clear h57;have su1:=q.size;have BA:Bw w (u1.alloc (.cells #[vI (hC x),vS (hT x)] 103)):=(B.trans (q.mono O0)).alloc O0 _;have R:Bw wr (u1.alloc (.cells #[vI (hC x),vS (hT x)] 103)):=q.alloc su1 _;have W:=U0 (z.out.below R);have RA:=U0 (y.out.below R);have yx:=U0 (r.out.below R O0);have F:=U0 (Z7 u1 [vI (hC x),vS (hT x)] 103);have szA:(u1.alloc (.cells #[vI (hC x),vS (hT x)] 103)).heap.size=u1.heap.size+1:=X4;have hD:u1.heap.size<(u1.alloc (.cells #[vI (hC x),vS (hT x)] 103)).heap.size:=O0;clear z y r q
    go_wp2_with fail
    generalize (u1.alloc (.cells #[vI (hC x),vS (hT x)] 103))=C at*;have f0:=W.out.blk 0 _ rfl;have f1:=W.out.blk 1 _ rfl;have d0:=F.out 0 _ rfl;have d1:=F.out 1 _ rfl;refine wp_region_held_drew (S:=(fun u=>u.cell? (aA (w.heap.size+4) 0)=some (vI s.wd)/\u.cell? (aA (w.heap.size+4) 1)=some (.map (some (w.heap.size+1)))/\u.cell? (aW u1 0)=some (vI (hC x))/\u.cell? (aW u1 1)=some (vS (hT x)))) Y2 ?_ fun hHeld=>?_
    · exact ⟨f0,f1,d0,d1⟩
    refine Y0 0 ?_;refine Y0 1 ?_;refine Y0 2 ?_;refine Y0 3 ?_;refine Y0 4 ?_;refine Y0 5 ?_;refine Y0 6 ?_;refine Y0 7 ?_;refine Y0 8 ?_;refine Y0 10 ?_;refine Y0 11 ?_;refine Y0 12 ?_;refine rq 9 fun K o=>?_;go_simp;refine (aI x s.wd _ hx7).mono ?_;rintro e v1 ⟨rfl,hbv⟩
    go_wp2_with fail
    have d:Bw C v1:=((Z4 _ _).drew).trans hbv;have sv1:=d.size;have m:=U0 (W.out.below d);have RV:=U0 (RA.out.below d);have BV:=BA.trans (d.mono O0);have h0:=m.out.blk 0 _ rfl;have h1:=m.out.blk 1 _ rfl;have Z:=(d.cell (p:=(aW u1 0)) (show u1.heap.size<C.heap.size by omega)).trans d0;have Y:=(d.cell (p:=(aW u1 1)) (show u1.heap.size<C.heap.size by omega)).trans d1;have X:=U0 (yx.out.below d O0);have E:=U0 (F.out.below d O0);clear hHeld hbv;refine E8 o ⟨h0,h1,Z,Y⟩ fun hHeld=>?_;clear o K;refine rq 13 fun K o=>?_;refine Iz (l:=(s.ts.take k).map (gT s.wd)) (k:=Z5 x s.wd) (vv:=hV x) rfl 209 (.tmp 32) (.tmp 38) (.tmp 41) rfl rfl rfl rfl m.out.tx underlying209 HNL.out HKM.out rfl ?_;intro v2 g c;rw [a5J.out] at g
    replace g:=aj g
    rw [Zb] at g;have n:=U0 (m.out.upT c g a5K.out);have R2:=U0 (RV.out.WY c m.out);have B2:=BV.trans (P9 c (fun j e=>by cases e;omega) O0);have sv2:=c.size;have neT:some w.heap.size≠some (w.heap.size+1):=fun e=>by have:=w_ e;omega
    have y2:=U0 (N9 X.out c O0 neT);have j0:=n.out.blk 0 _ rfl;have j1:=n.out.blk 1 _ rfl;have neD:some u1.heap.size≠some (w.heap.size+1):=fun e=>by have:=w_ e;omega
    have z0:=(N9 (vs:=[vI (hC x),vS (hT x)]) E.out c O0 neD) 0 _ rfl;have z1:=(N9 (vs:=[vI (hC x),vS (hT x)]) E.out c O0 neD) 1 _ rfl;clear hHeld g c;refine E8 o ⟨j0,j1,z0,z1⟩ fun hHeld=>?_;clear o K hHeld;refine wdn ?_;clear h0 h1 Z Y X E m RV BV;go_wp2;go_roundw
    case rel=>exact ⟨k+1,O0,by go_num,n,R2,y2,B2,O0⟩
    case measure=>simp [Go.RowKit.intOf];omega
  · obtain rfl:k=s.ts.length:=O0;have n:Hid (VA w.heap.size (w.heap.size+4) (w.heap.size+1) (w.heap.size+2) (w.heap.size+3) s.wd (s.ts.map (gT s.wd)) [] [] wr):=by have h:=z.out;rw [Yp] at h;exact h
    have z2:=r.out 2 _ rfl;have S2:Hid (Sh w.heap.size (w.heap.size+4) (w.heap.size+1) (w.heap.size+2) (w.heap.size+3) s.wd (s.ts.map (gT s.wd)) (s.rs.take 0) [] wr):=⟨[],n.out,y.out⟩;clear z n y r
    go_wp2_with fail
    go_loopw [46] (fun i wr=>∃ (k:Nat) (rv:List Value),k<=s.rs.length/\i=.int .i64 k/\Hid (Sh w.heap.size (w.heap.size+4) (w.heap.size+1) (w.heap.size+2) (w.heap.size+3) s.wd (s.ts.map (gT s.wd)) (s.rs.take k) rv wr)/\Below w.heap.size w wr) (fun i _=>s.rs.length - (Go.RowKit.intOf i).toNat)
    case atStart=>exact ⟨0,[],J4 _,rfl,S2,B⟩
    case round=>
     obtain ⟨k,rv,hk,rfl,t,A⟩:=hrel;by_cases a:k<s.rs.length
     · obtain ⟨rb,ro,hra,hrb,hrec⟩:=Cc HR.out a;subst hra;obtain ⟨U,O,r0,r1,r2,hV⟩:=a0j (hrec k a) A hrb;have HTK:=U0 (iO a);have hkey:(s.rs.getD k f_).key.size<=1048700:=by have:=(HRO.out k a).1.1;omega
       have htk:(s.rs.take k).length<=1000:=U7;generalize s.rs.getD k f_=x at*;clear hrec;have Q:Bw wr (wr.alloc (.cells #[vS x.key,vL U x.gs.length O,vS x.out] 145)):=P6;have S4:=U0 (t.out.below Q);have V4:=hV.kept (Bf Q) (fun _ e=>by cases e);have h59:=c152 _ _ _ _ _ _ _ _ _ x U O _ S4.out V4 htk hkey;have hZq:=A.size;clear t hV V4
       go_wp2_with fail
       refine h59.mono ?_;rintro e u5 ⟨rfl,S5,B5,_⟩;have S6:Hid (Sh w.heap.size (w.heap.size+4) (w.heap.size+1) (w.heap.size+2) (w.heap.size+3) s.wd (s.ts.map (gT s.wd)) (s.rs.take (k+1)) (rv++[.agg #[vS x.key,vL U x.gs.length O,vS x.out]]) u5):=by show Sh _ _ _ _ _ _ _ _ _ _;rw [HTK.out];exact S5
       have B6:=(A.trans (Q.mono hZq)).trans B5;clear h59 S5 S4 B5;go_wp2;go_roundw
       case rel=>exact ⟨k+1,_,O0,by go_num,S6,B6⟩
       case measure=>simp [Go.RowKit.intOf];omega
     · obtain rfl:k=s.rs.length:=O0;have S7:Hid (Sh w.heap.size (w.heap.size+4) (w.heap.size+1) (w.heap.size+2) (w.heap.size+3) s.wd (s.ts.map (gT s.wd)) s.rs rv wr):=by have h:=t.out;rw [Yp] at h;exact h
       clear t;go_wp2;go_ret;exact ⟨⟨_,_,_,_,rv,rfl,S7.out⟩,A⟩
open Go.RowKit Go.Maps Go.Sort Go.Shelf
attribute [local go_sem] Oper.semAt_some
theorem a2U (a:Option Nat) (n:Nat) (w:World):CallsIn Fence.wide n prog 158 #[.map a] w fun e w'=>e=.returned (.func (.func 216) #[] #[.pointer (some ⟨w.heap.size,0,none⟩)])/\w'=w.alloc (.cells #[.map a] 209):=by
 refine callsIn_of_wp func158 rfl trivial ?_ rfl;simp only [ntmps158,fA,o_,Ee,Nat.reduceAdd,Nat.reduceSub,pz,yA,AA,uz,Ua,rf]
 gi_wp2
 go_ret;exact ⟨rfl,rfl⟩
theorem c159 (a:Option Nat) (n:Nat) (w:World):CallsIn Fence.wide n prog 159 #[.map a] w fun e w'=>e=.returned (.func (.func 219) #[] #[.pointer (some ⟨w.heap.size,0,none⟩)])/\w'=w.alloc (.cells #[.map a] 210):=by
 refine callsIn_of_wp func159 rfl trivial ?_ rfl;simp only [ntmps159,fA,o_,Ee,Nat.reduceAdd,Nat.reduceSub,pz,yA,AA,uz,Ua,rf]
 gi_wp2
 go_ret;exact ⟨rfl,rfl⟩
def gC (gs:List G3):List Value:=gs.flatMap fun g=>[.bool g.nm,.string g.tl,.string g.ar]
theorem rP (gs:List G3):(gC gs).length=gs.length*3:=by
 induction gs with
 | nil=>rfl
 | cons x r ih=>simp only [gC,vg,D9] at ih ⊢;rw [ih];simp;omega
theorem pO (gs:List G3):∀ u∈gC gs,u.oneCell'=true:=fun u a=>by
 obtain ⟨g,_,h⟩:=zD.1 a;simp at h;rcases h with rfl | rfl | rfl <;> rfl
theorem xX (gs:List G3):∀ k,k<gs.length->(gC gs)[k*3]?=some (.bool (gs.getD k Vg).nm)/\(gC gs)[k*3+1]?=some (.string (gs.getD k Vg).tl)/\(gC gs)[k*3+2]?=some (.string (gs.getD k Vg).ar):=by
 induction gs with
 | nil=>intro k a;exact absurd a (J8 _)
 | cons x r ih=>
  intro k a
  cases k with
  | zero=>exact ⟨rfl,rfl,rfl⟩
  | succ k=>
   have:=ih k (by simpa using a);have e1:(k+1)*3=k*3+1+1+1:=O0;rw [e1];exact this
theorem AY {off:Nat} (h:∀ i,i<gs.length->w.cell? ⟨b,off+i*3,none⟩=some (.bool (gs.getD i Vg).nm)/\w.cell? ⟨b,off+i*3+1,none⟩=some (.string (gs.getD i Vg).tl)/\w.cell? ⟨b,off+i*3+2,none⟩=some (.string (gs.getD i Vg).ar)):∀ j v,(gC gs)[j]?=some v->w.cell? ((⟨b,off,none⟩:Addr).add j)=some v:=by
 intro j v a;rw [Ag];have hlt:j<gs.length*3:=by rw [<- rP];exact (Tm.1 a).1
 obtain ⟨q,hq⟩:∃ q,j / 3=q:=⟨_,rfl⟩;have c:q<gs.length:=O0;obtain ⟨f,d,a2⟩:=xX gs q c;obtain ⟨b0,l,k⟩:=h q c;have g:j=q*3\/j=q*3+1\/j=q*3+2:=O0;rcases g with e | e | e
 · subst e;rw [a] at f;cases f;exact b0
 · subst e;rw [a] at d;cases d;exact l
 · subst e;rw [a] at a2;cases a2;exact k
theorem ZR:(prog.info? 205).map (fun i=>(i.zero,i.size,i.bytes))=some (some (.agg #[.bool false,.string ⟨#[]⟩,.string ⟨#[]⟩]),3,40):=Y2
theorem sJ {base:Nat} {a:OA} {c:Nat} (h:w.ownsRow base 205 3 (.slice a gs.length c) gs.length (gC gs)):R_ w a gs:=by
 have b:=h;rcases h.2 with ⟨hv,h0⟩ | ⟨g,cap,cur,hv,hg,e,_⟩
 · exact .inl (Va.1 h0)
 · simp only [Vq] at hv;obtain ⟨rfl,_,rfl⟩:=hv;refine .inr ⟨g,0,rfl,(r_.1 e).1,fun k d=>?_⟩;obtain ⟨i,f,a2⟩:=xX gs k d;refine ⟨?_,?_,?_⟩
   · rw [L8,b.cellAt (k*3) O0];exact i
   · rw [L8,b.cellAt (k*3+1) O0];exact f
   · rw [L8,b.cellAt (k*3+2) O0];exact a2
theorem XM (b:Addr) (c:Nat) (gs:List G3) (w:World) (hl:gs.length<=1048576) (f:∀ u,Bw w u->∀ j v,(gC gs)[j]?=some v->u.cell? (b.add j)=some v):
 Calls prog 160 #[.slice (some b) gs.length c] w fun e w'=>(∃ d a,e=.returned (.slice d gs.length a)/\w'.ownsRow w.heap.size 205 3 (.slice d gs.length a) gs.length (gC gs))/\Bw w w':=by
 obtain ⟨l,q,o,n,m⟩:=info_parts' ZR;have hnil:∀ u,(binOp .eql 143 (vL (some b) gs.length c) vN).run prog u=.ok (.bool false) u:=fun u=>Y2;have t:=U0 f;clear f;go_enter func160,ntmps160;have p:=trivial
 go_wp2_with (refine Dq rfl (.tmp 5) (.tmp 6) 143 rfl w.heap.size 205 l (.agg #[.bool false,.string ⟨#[]⟩,.string ⟨#[]⟩]) 3 40 underlying143 q o n m rfl o6 _ _ _ rfl ((World.ownsRow_made w #[] 0 H8 (Nat.zero_le _) rfl)) b gs.length c (gC gs) rfl (rP gs) (t.out _ P6) (pO gs) (by unfold maxLen;omega) O0 X4 ?_;revert p)
 intro v' w2 g r;obtain ⟨d,a,rfl⟩:=I9 g;have s:=P6.grown r X4 (fun k h=>by have i:some w.heap.size=some k:=h;injection i with i;omega);go_wp2;go_ret;exact ⟨⟨d,a,rfl,g⟩,s⟩
theorem aN (c:Nat) (w:World):
 Calls prog 160 #[.slice none 0 c] w fun e w'=>e=.returned (.slice none 0 0)/\Bw w w':=by
 have hnil:∀ u,(binOp .eql 143 (vL none 0 c) vN).run prog u=.ok (.bool true) u:=fun u=>Y2;go_enter func160,ntmps160;go_wp2;go_ret;exact ⟨rfl,Z4 _ _⟩
theorem c160 (a:OA) (c:Nat) (gs:List G3) (w:World) (hl:gs.length<=1048576) (k:R_ w a gs):
 Calls prog 160 #[.slice a gs.length c] w fun e w'=>(∃ m l,e=.returned (.slice m gs.length l)/\w'.ownsRow w.heap.size 205 3 (.slice m gs.length l) gs.length (gC gs))/\Bw w w':=by
 cases a with
 | none=>
  rcases k with rfl | ⟨b,off,h,_⟩
  · refine (aN c w).mono ?_;rintro e w' ⟨rfl,o⟩;exact ⟨⟨none,0,rfl,mg _ _ _ _⟩,o⟩
  · cases h
 | some ad=>
  refine XM ad c gs w hl fun u d=>?_;rcases k with rfl | ⟨b,off,h,f,hc⟩
  · intro j v n;simp [gC] at n
  · cases h
    exact AY (fun i g=>⟨(d.cell (p:=(aA b (off+i*3))) f).trans (hc i g).1,(d.cell (p:=(aA b (off+i*3+1))) f).trans (hc i g).2.1,(d.cell (p:=(aA b (off+i*3+2))) f).trans (hc i g).2.2⟩)
