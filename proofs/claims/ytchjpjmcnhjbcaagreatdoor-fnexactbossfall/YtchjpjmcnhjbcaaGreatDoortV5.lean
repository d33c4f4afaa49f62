import Derived.Test.YtchjpjmcnhjbcaaGreatDooreY9
import Derived.Test.YtchjpjmcnhjbcaaGreatDooryA
set_option linter.unusedVariables false
set_option maxHeartbeats 8000000
set_option maxRecDepth 100000
namespace Go.Proofs.YtchjpjmcnhjbcaaGreatDoor
open Proofs.Tryz Go.RowKit
theorem a0M (K:Nat) (hK1:1<=K) (hK2:K<=10) (s:BY) (w:World) (hs:s.size<=1048700):
 Calls prog 137 #[.string s,.int .i64 K] w fun e w'=>(∃ g y,e=.returned (.tuple #[.slice (some ⟨g,0,none⟩) K y,.string (J3 (Q9 s.data.toList K))])/\w.heap.size<=g/\Xb w' g (A_ s.data.toList K))/\Bw w w':=by
 obtain ⟨B,H,E,D,C⟩:=info_parts info9;have hlen:s.data.toList.length=s.size:=X4;go_enter func137,ntmps137
 go_wp2_with fail
 go_loopw [0,6,7] (fun L v i wr=>∃ (m:Nat) (t:ByteArray) (ss:List (List UInt8)),m<=K/\i=.int .i64 m/\L=.string t/\wr.ownsRow w.heap.size 9 1 v m (Dt ss)/\Hid (t=J3 (Q9 s.data.toList m)/\ss=A_ s.data.toList m)/\Below w.heap.size w wr/\w.heap.size+1<=wr.heap.size) (fun _ _ i _=>K - (RowKit.intOf i).toNat)
 case atStart=>exact ⟨0,s,[],J4 _,rfl,rfl,Iu _ #[] 0 H8 (J4 _) rfl,⟨rfl,rfl⟩,P6,X4⟩
 case round=>
  obtain ⟨m,t,ss,hm,rfl,rfl,a,hrel,o,hz⟩:=hrel;by_cases hlt:m<K
  · obtain ⟨hT,rfl⟩:=hrel.out;have hts:t.size<=1048700:=by rw [hT,I5];have:=Qi s.data.toList m;omega
    have I:t.data.toList=Q9 s.data.toList m:=by rw [hT];simp [J3]
    have p:=U0 I;have a5q:t.data.toList.length=t.size:=X4;clear hT I;clear hrel
    go_wp2_with fail
    go_loop [8] (fun n=>∃ k:Nat,k<=t.size/\n=.int .i64 k/\Hid ((t.data.toList.take k).all (· !=32)=true)) (fun n=>t.size - (RowKit.intOf n).toNat)
    case atStart=>exact ⟨0,J4 _,rfl,rfl⟩
    case round=>
     obtain ⟨k,hk,rfl,ha⟩:=hrel;by_cases F:k<t.size
     · have a6d:(k:Int)<(t.size:Int):=O0;by_cases b:t[k]=32
       · have e1:((t[k].toNat:Int) !=32)=false:=by rw [b];rfl
         obtain ⟨d,c⟩:=lm (l:=t.data.toList) ha.out O0 (.inr (by simp [F];exact b));have z:Hid (t.extract 0 k=J3 (O1 t.data.toList)):=Qb (by rw [Ya,d];rfl);have A:Hid (t.extract (k+1) t.size=J3 (Y1 t.data.toList)):=Qb (by rw [Ya,c,l_ O0]);clear b d c
         go_wp2_with (at_builtin;refine wpList_append_own _ rfl _ _ 22 rfl w.heap.size 9 B (.string ⟨#[]⟩) 1 16 underlying22 H E D C rfl o6 _ _ _ rfl (a.alloc _) ⟨wr.heap.size,0,none⟩ 1 1 [_] rfl rfl (cell_one_new _ _ _) (by intro u f;simp at f;subst f;rfl) (by unfold maxLen;omega) O0 U7 ?_;intro v' J q h _)
         go_roundw
         case rel=>
          have x:=(o.alloc o.size _).grown h U7 (fun j r=>(a.lt j r).1);refine ⟨m+1,_,A_ s.data.toList (m+1),O0,by go_num,rfl,?_,⟨by rw [A.out,p.out];rfl,rfl⟩,x,by have:=h.size;simp at this;omega⟩;rw [Pj,Tf,<- p.out,<- z.out];exact q
         case measure=>simp [RowKit.intOf];omega
       · have e1:((t[k].toNat:Int) !=32)=true:=by
          simp only [Tq];intro e;exact b (Yh.1 (by
           have:t[k].toNat=32:=O0;rw [this];rfl))
         have O:Hid ((t.data.toList.take (k+1)).all (· !=32)=true):=by
          rw [take_snoc t k F,Pn,ha.out];simp [Hid,b]
         clear b;go_wp2
         go_round
         case rel=>exact ⟨k+1,O0,by go_num,O⟩
         case measure=>simp [RowKit.intOf];omega
     · obtain ⟨d,c⟩:=lm (l:=t.data.toList) ha.out O0 (.inl O0);have z:Hid (t.extract 0 k=J3 (O1 t.data.toList)):=Qb (by rw [Ya,d];rfl);have A:Hid (t.extract k t.size=J3 (Y1 t.data.toList)):=Qb (by rw [Ya,c,l_ O0,jq O0,jq O0]);clear d c
       go_wp2_with (at_builtin;refine wpList_append_own _ rfl _ _ 22 rfl w.heap.size 9 B (.string ⟨#[]⟩) 1 16 underlying22 H E D C rfl o6 _ _ _ rfl (a.alloc _) ⟨wr.heap.size,0,none⟩ 1 1 [_] rfl rfl (cell_one_new _ _ _) (by intro u f;simp at f;subst f;rfl) (by unfold maxLen;omega) O0 U7 ?_;intro v' J q h _)
       go_roundw
       case rel=>
        have x:=(o.alloc o.size _).grown h U7 (fun j r=>(a.lt j r).1);refine ⟨m+1,_,A_ s.data.toList (m+1),O0,by go_num,rfl,?_,⟨by rw [A.out,p.out];rfl,rfl⟩,x,by have:=h.size;simp at this;omega⟩;rw [Pj,Tf,<- p.out,<- z.out];exact q
       case measure=>simp [RowKit.intOf];omega
  · obtain rfl:m=K:=O0;obtain ⟨rfl,rfl⟩:=hrel.out;clear hrel;obtain ⟨g,y,N⟩:=ul a O0;subst N;go_wp2;go_ret2;exact ⟨⟨g,y,rfl,(a.lt g rfl).1,Dh a (by simp [A_])⟩,o⟩
end Go.Proofs.YtchjpjmcnhjbcaaGreatDoor
namespace Go.Proofs.YtchjpjmcnhjbcaaGreatDoor.T
open Proofs.Tryz Go.RowKit
theorem xG (n a b:Int) (w:World):
 Calls prog 55 #[.int .i64 n,.int .i64 a,.int .i64 b] w fun e w'=>e=.returned (.bool (decide (a<=n/\n<=b)))/\w'=w:=by
 by_cases h1:a<=n <;> by_cases h2:n<=b
 all_goals
  go_enter func55,ntmps55;go_wp2
  all_goals go_ret
  all_goals exact ⟨by simp [*],rfl⟩
theorem Ed {B i j:Nat} (h:i≠j):(⟨B,i,none⟩:Addr)≠⟨B,j,none⟩:=by intro e;injection e with _ e;exact h e
theorem Gm (u:World) (B j:Nat) (a b x0 x1:Value) (h0:u.cell? ⟨B,j,none⟩=some x0) (h1:u.cell? ⟨B,j+1,none⟩=some x1):
 ((u.setCell ⟨B,j,none⟩ a).setCell ⟨B,j+1,none⟩ b).cell? ⟨B,j,none⟩=some a/\((u.setCell ⟨B,j,none⟩ a).setCell ⟨B,j+1,none⟩ b).cell? ⟨B,j+1,none⟩=some b:=by
 have c:(u.setCell ⟨B,j,none⟩ a).cell? ⟨B,j+1,none⟩=some x1:=by rw [Na _ _ _ _ (Ed O0)];exact h1
 refine ⟨?_,jg _ _ _ c⟩;rw [Na _ _ _ _ (Ed O0)];exact jg _ _ _ h0
theorem a1A (x:F2) (w:World):
 Calls prog 128 #[.agg #[.string x.nm,.string x.tx],.agg #[.string x.nm,.string x.tx]] w fun e w'=>e=.returned (.bool true)/\Bw w w':=by
 go_enter func128,ntmps128;go_wp2;go_ret;exact ⟨rfl,P6.alloc X4 _⟩
theorem c80 (a q:OA) (u t:Nat) (rs:List F2) (w:World) (hl:rs.length<=1048576) (o:G6 w a rs) (n:G6 w q rs):
 Calls prog 80 #[.slice a rs.length u,.slice q rs.length t] w fun e w'=>e=.returned (.bool true)/\Bw w w':=by
 obtain ⟨b,off,hc⟩:=Z9 o;have y:=U0 hc;clear hc o;obtain ⟨b',h,j⟩:=Z9 n;have v:=U0 j;clear j n;go_enter func80,ntmps80
 go_wp2_with fail
 go_loopw [5] (fun i wr=>∃ (k:Nat),k<=rs.length/\i=.int .i64 k/\Below w.heap.size w wr) (fun i _=>rs.length - (RowKit.intOf i).toNat)
 case atStart=>exact ⟨0,J4 _,rfl,Z4 _ _⟩
 case round=>
  obtain ⟨k,hk,rfl,c⟩:=hrel;by_cases d:k<rs.length
  · obtain ⟨ha,m,g⟩:=Cc y.out d;obtain ⟨s,l,f⟩:=Cc v.out d;subst ha;subst s;have g0:=(c.cell (p:=⟨b,off+k*2,none⟩) m).trans (g k d).1;have g1:=(c.cell (p:=⟨b,off+k*2+1,none⟩) m).trans (g k d).2;have g0':=(c.cell (p:=⟨b',h+k*2,none⟩) l).trans (f k d).1;have g1':=(c.cell (p:=⟨b',h+k*2+1,none⟩) l).trans (f k d).2;generalize rs.getD k I8=x at*;clear g f
    go_wp2_with fail
    go_region_with (go_at_call 128;refine (a1A x _).mono ?_;rintro e w1 ⟨rfl,r⟩)
    all_goals go_wp2
    all_goals go_roundw
    all_goals first
     | exact ⟨k+1,O0,by go_num,(c.drew).trans (r.mono c.size)⟩
     | (simp [RowKit.intOf];omega)
  · go_wp2;go_ret;exact ⟨rfl,c⟩
end Go.Proofs.YtchjpjmcnhjbcaaGreatDoor.T
namespace Go.Proofs
open Go.Shelf
def Tryz.lays146_ren:Go.Shelf.Ren:=⟨fun | 146=>205 | 221=>246 | 268=>277 | 138=>225 | 143=>268 | 195=>266 | 197=>293 | 218=>267 | 219=>275 | 260=>320 | 217=>289 | 225=>290 | 224=>291 | 267=>292 | 266=>318 | 314=>319 | n => n, fun | 9=>9 | 3=>3 | 31=>22 | 4=>4 | 0=>0 | 105=>381 | 21=>21 | 5=>5 | 46=>257 | 119=>412 | 139=>415 | 138=>414 | 146=>326 | 51=>325 | n => n, fun | 1=>5 | 3=>9 | 4=>10 | n=>n⟩
theorem Tryz.lays146:Go.Proofs.Lays.n146 prog Tryz.lays146_ren:={
 mixed:=Y2
 f138:=func225.trans (U6 some Y2)
 f143:=func268.trans (U6 some Y2)
 f146:=func205.trans (U6 some Y2)
 f195:=func266.trans (U6 some Y2)
 f197:=func293.trans (U6 some Y2)
 f217:=func289.trans (U6 some Y2)
 f218:=func267.trans (U6 some Y2)
 f219:=func275.trans (U6 some Y2)
 f221:=func246.trans (U6 some Y2)
 f224:=func291.trans (U6 some Y2)
 f225:=func290.trans (U6 some Y2)
 f260:=func320.trans (U6 some Y2)
 f266:=func318.trans (U6 some Y2)
 f267:=func292.trans (U6 some Y2)
 f268:=func277.trans (U6 some Y2)
 f314:=func319.trans (U6 some Y2)
 t0:=underlying0
 a0:=Tryz.isAgg0
 z0:=Tryz.sizeOf0
 v0:=Tryz.zeroValue0
 t3:=underlying3
 a3:=Tryz.isAgg3
 z3:=Tryz.sizeOf3
 v3:=Tryz.zeroValue3
 t4:=underlying4
 a4:=Tryz.isAgg4
 z4:=Tryz.sizeOf4
 v4:=Tryz.zeroValue4
 t5:=underlying5
 a5:=Tryz.isAgg5
 z5:=Tryz.sizeOf5
 v5:=Tryz.zeroValue5
 t9:=underlying9
 a9:=Tryz.isAgg9
 z9:=Tryz.sizeOf9
 v9:=Tryz.zeroValue9
 t21:=underlying21
 a21:=Tryz.isAgg21
 z21:=Tryz.sizeOf21
 v21:=Tryz.zeroValue21
 t31:=underlying22
 a31:=Tryz.isAgg22
 z31:=Tryz.sizeOf22
 v31:=Tryz.zeroValue22
 t46:=underlying257
 a46:=Tryz.isAgg257
 z46:=Tryz.sizeOf257
 v46:=Tryz.zeroValue257
 t51:=underlying325
 a51:=Tryz.isAgg325
 z51:=Tryz.sizeOf325
 v51:=Tryz.zeroValue325
 t105:=underlying381
 a105:=Tryz.isAgg381
 z105:=Tryz.sizeOf381
 v105:=Tryz.zeroValue381
 t119:=underlying412
 a119:=Tryz.isAgg412
 z119:=Tryz.sizeOf412
 t138:=underlying414
 a138:=Tryz.isAgg414
 z138:=Tryz.sizeOf414
 v138:=Tryz.zeroValue414
 t139:=underlying415
 a139:=Tryz.isAgg415
 z139:=Tryz.sizeOf415
 v139:=Tryz.zeroValue415
 t146:=underlying326
 a146:=Tryz.isAgg326
 z146:=Tryz.sizeOf326
 v146:=Tryz.zeroValue326
 g1:=Y2
 g3:=Y2
 g4:=by kernel_rfl }
theorem Tryz.strings_Split (s a:BY) (m:Int) (w:World) (b:s.size<4294967281) (hm:w.cell? ⟨5,0,none⟩=some (.int .i64 m)) (h1:1<=a.size):
 Calls prog 205 #[.string s,.string a] w fun e w'=>
  e=.returned (.slice (some ⟨w.heap.size,0,none⟩) (Lib.countB s a+1) (Lib.countB s a+1))/\w'=w.alloc (.cells ((Lib.splitB a 0 (Lib.countB s a) s).map Value.string).toArray 9):=Any.strings_Split Tryz.lays146 Y2 s a m w b hm h1
end Go.Proofs
namespace Go.Proofs.YtchjpjmcnhjbcaaGreatDoor
open Proofs.Tryz Go.RowKit
variable {l:List UInt8} {c:Int} {x:L4} {ls:List L4}
def lookW (h:Bool):BY:=if h then ⟨#[104,97,115]⟩ else ⟨#[97,115,107]⟩
theorem Rt (n:Int) (h0:0<=n) (h1:n<=1000):(dec n).length<=4:=by
 by_cases a:n<10
 · rw [dec_lt n a];simp
 · rw [Tj n O0,D9];by_cases b:n / 10<10
   · rw [dec_lt _ b];simp
   · rw [Tj (n / 10) O0,D9];by_cases c:n / 10 / 10<10
     · rw [dec_lt _ c];simp
     · rw [Tj (n / 10 / 10) O0,D9];have d:n / 10 / 10 / 10<10:=O0;rw [dec_lt _ d];simp
theorem mV (n:Int) (h1:n<10):(dec n).length=1:=by rw [dec_lt n h1];rfl
theorem uj (h:Y5 l=true):1<=l.length/\l.length<=20:=by
 unfold Y5 at h;rw [V_,Ud] at h;exact h.1
theorem UD (h:vr c l=true):l.length<=300:=by
 rcases Q7 300 l.length with h1 | h1
 · rw [lF h1] at h;cases h
 · exact h1
theorem Iq (l:List UInt8):(P5 l).length<=3*l.length+2:=by
 have:=yt l;unfold P5;simp only [o_,D9,Ee];omega
theorem TW (h:Rh x):x.nm.data.toList.length<=20/\x.tx.data.toList.length<=300:=by
 have a:=uj h.1;refine ⟨a.2,?_⟩;rcases h.2 with ⟨_,⟨_,h⟩ | ⟨_,h⟩⟩ | ⟨_,h⟩
 · rw [h];exact J4 _
 · rw [h];omega
 · exact UD h
theorem eF {t:BY} (h0:0<=c) (h1:c<=7) (ht:t.data.toList.length<=300):(Za c t).length<=904:=by
 have a:=mV c O0;have b:=Iq t.data.toList;unfold Za;simp only [D9,o_,Ee];omega
theorem xP (h:Rh x):(Dn x).length<=930:=by
 obtain ⟨a,b⟩:=TW h;have hc:=Ci h;have r:=eF hc.1 hc.2 b;have w4:(Wv x.has).data.toList.length=4:=by cases x.has <;> rfl
 unfold Dn;simp only [D9,o_,Ee];omega
theorem jJ (h:Uf ls):∀ k,k<=ls.length->(y_ (ls.take k)).length<=k*930:=by
 intro k
 induction k with
 | zero=>intro _;simp [y_]
 | succ k ih=>
  intro hk;rw [SA ls k O0,D9];have:=xP (h.2 k O0);have:=ih O0;omega
theorem uw (h:Uf ls):(y_ ls).length<=13950:=by
 have:=jJ h ls.length H8;rw [l_ H8] at this;have:=h.1;omega
theorem UE {x:M3} (h:Ze x=true):x.nm.data.toList.length<=20/\x.tl.data.toList.length<=20/\x.ar.data.toList.length<=300:=by
 unfold Ze at h;simp only [V_,Ud] at h;have e:x.ar.data.toList.length=x.ar.size:=X4;exact ⟨(uj h.1.1).2,(uj h.1.2).2,O0⟩
end Go.Proofs.YtchjpjmcnhjbcaaGreatDoor
namespace Go.Proofs.YtchjpjmcnhjbcaaGreatDoor.T
open Proofs.Tryz Go.RowKit
theorem c30 (a b:OA) (f d:Nat) (is:List F2) (w:World) (hl:is.length<=1048576) (h:G6 w a is) (g:G6 w b is):
 Calls prog 30 #[.agg #[.slice a is.length f],.agg #[.slice b is.length d]] w fun e w'=>e=.returned (.bool true)/\Bw w w':=by
 have k:=U0 h;have j:=U0 g;clear h g;have c:Bw w ((w.alloc (.cells #[vL a is.length f] 40)).alloc (.cells #[vL b is.length d] 40)):=P6.alloc X4 _;go_enter func30,ntmps30
 go_wp2_with fail
 refine (c80 a b f d is _ hl (J5 k.out c) (J5 j.out c)).mono ?_;rintro e w1 ⟨rfl,i⟩;go_wp2;go_ret;exact ⟨rfl,X5 c i⟩
