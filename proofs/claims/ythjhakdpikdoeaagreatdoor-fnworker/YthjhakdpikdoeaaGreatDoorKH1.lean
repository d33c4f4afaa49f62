import Derived.Test.YthjhakdpikdoeaaGreatDoorKZE
import Derived.Test.YthjhakdpikdoeaaGreatDoorZ46
set_option linter.unusedVariables false
set_option maxHeartbeats 8000000
set_option maxRecDepth 100000
namespace Go.Proofs.YthjhakdpikdoeaaGreatDoor.M
open Proofs.Tryz
open Go.RowKit
def w19z:W19:=⟨0,false,false,g16z⟩
def TkR (x:W19) (m:G16) (y:W19):Prop:=(¬ WkOk x/\y=w19z)\/(WkOk x/\TkOn x m/\y=⟨x.no,x.up,true,m⟩)\/(WkOk x/\¬ TkOn x m/\y=x)
theorem tkR_one {x:W19} {m:G16} {y z:W19} (h:TkR x m y) (k:TkR x m z):y=z:=by
 rcases h with ⟨h1,rfl⟩ | ⟨h1,h2,rfl⟩ | ⟨h1,h2,rfl⟩ <;> rcases k with ⟨k1,rfl⟩ | ⟨k1,k2,rfl⟩ | ⟨k1,k2,rfl⟩
 all_goals first
  | rfl
  | exact absurd h1 k1
  | exact absurd k1 h1
  | exact absurd h2 k2
  | exact absurd k2 h2
theorem BlkAt.fill0 {u:World} {B:Nat} {old vs:List Value} (h:BlkAt u B old) (hl:old.length=vs.length):BlkAt (Go.Proofs.YthjhakdpikdoeaaGreatDoor.M.fill u B 0 vs) B vs:=by
 have k:=BlkAt.fill vs [] old [] 0 (by simpa using h) hl rfl;simpa using k
theorem wpList_val {P:Program} {ops:Array Oper} {rest:List Oper} {o:Oper} {a:Act} {w:World} {Q:Exit->Act->World->Prop} (hgd:o.guard=none) (p:Op) (_hop:o.op=p) (v:Value) (w':World) (he:(execOp a.eval o).run P w=.ok (.value v) w')
 (h:wpList P ops Q rest (a.put o.dst v) w'):wpList P ops Q (o::rest) a w:=by
 refine wpList_plain hgd fun K hK=>?_;unfold Oper.wp;rw [he];exact hK _ _ h
theorem c5 (x:W19) (m:G16) (b:Option Addr) (n:Nat) (b2:Option Addr) (n2:Nat) (w:World) (hx:x.of.le 1048576) (hm:m.le 1048576) (hat:LksAt w b x.of.ls) (hat2:LksAt w b2 m.ls) (hN:NS b n x.of.ls) (hN2:NS b2 n2 m.ls):
 Calls prog 5 #[.agg (lhA x.no x.up x.has x.of b n),.agg (lgA m b2 n2)] w fun e w'=>(∃ y ao c,TkR x m y/\e=.returned (.agg ((lhL y.no y.up y.has y.of ao c):List Value).toArray)/\LkOwn w' w.heap.size ao y.of.ls)/\Below w.heap.size w w':=by
 have HA:Hid (LksAt w b x.of.ls):=hat;have HA2:Hid (LksAt w b2 m.ls):=hat2;have HX:Hid (x.of.le 1048576):=hx;have HM:Hid (m.le 1048576):=hm;clear hat hat2 hx hm;have hB0:Below w.heap.size w (((w.alloc (.cells (lhA x.no x.up x.has x.of b n) 33)).alloc (.cells (lgA m b2 n2) 31)).alloc (.cells (lkA 0 false false) 33)):=(bA.alloc sm_ _).alloc so_ _;have ZX:BlkAt (((w.alloc (.cells (lhA x.no x.up x.has x.of b n) 33)).alloc (.cells (lgA m b2 n2) 31)).alloc (.cells (lkA 0 false false) 33)) w.heap.size (lhL x.no x.up x.has x.of b n):=fun j v h=>by simp [go_sem,h]
 have ZM:BlkAt (((w.alloc (.cells (lhA x.no x.up x.has x.of b n) 33)).alloc (.cells (lgA m b2 n2) 31)).alloc (.cells (lkA 0 false false) 33)) (w.heap.size+1) (lgL m b2 n2):=fun j v h=>by simp [go_sem,h]
 have ZR:BlkAt (((w.alloc (.cells (lhA x.no x.up x.has x.of b n) 33)).alloc (.cells (lgA m b2 n2) 31)).alloc (.cells (lkA 0 false false) 33)) (w.heap.size+2) (lkL 0 false false):=fun j v h=>by simp [go_sem,h]
 have fR:OpnAt (((w.alloc (.cells (lhA x.no x.up x.has x.of b n) 33)).alloc (.cells (lgA m b2 n2) 31)).alloc (.cells (lkA 0 false false) 33)) (w.heap.size+2):=fun j=>by simp [go_sem]
 have hz0:(((w.alloc (.cells (lhA x.no x.up x.has x.of b n) 33)).alloc (.cells (lgA m b2 n2) 31)).alloc (.cells (lkA 0 false false) 33)).heap.size=w.heap.size+3:=sm_;have hbd:∀ u,(Instr.build 57 #[(0,.agg ((lhL x.no x.up x.has x.of b n):List Value).toArray),(1,.agg ((lgL m b2 n2):List Value).toArray)]).run prog u=.ok (.agg ((lsL x.no x.up x.has x.of b n m b2 n2 (.slice none 0 0)):List Value).toArray) u:=fun u=>kr_;go_enter func5,ntmps5
 go_wp2_with (refine wpList_load_blk rfl 33 (.tmp 2) rfl w.heap.size rfl (lhL x.no x.up x.has x.of b n) _ ZX underlying33 rfl kr_ ?_)
 generalize (((w.alloc (.cells (lhA x.no x.up x.has x.of b n) 33)).alloc (.cells (lgA m b2 n2) 31)).alloc (.cells (lkA 0 false false) 33))=V at*;refine (c12 x b n V HX.out (lks_below HA.out hB0)).mono ?_;rintro e w1 ⟨⟨r,rfl,hr⟩,hb1⟩;have HR:Hid (r=true↔WkOk x):=hr;have hB1:Below w.heap.size w w1:=bT hB0 hb1;have hz1:w.heap.size+3<=w1.heap.size:=by rw [<- hz0];exact hb1.size
 have ZX1:=ZX.below hb1 om_;have ZM1:=ZM.below hb1 om_;have ZR1:=ZR.below hb1 om_;have fR1:=fR.below hb1 om_;clear hr hb1 ZX ZM ZR fR hB0 hz0;cases r
 · have hSome:∀ i,i<((lkL 0 false false):List Value).length->(w1.cell? ⟨w.heap.size+2,0+i,none⟩).isSome=true:=fun i hi=>by
    rw [Nat.zero_add];rw [ZR1 i _ (List.getElem?_eq_getElem hi)];rfl
   go_wp2_with (refine wpList_store_blk rfl 33 (.tmp 4) (.tmp 9) rfl (w.heap.size+2) 0 rfl (lkL 0 false false) rfl hSome fR1 (by simp [Value.oneCell']) kr_ rfl ?_)
   have F:BlkAt (fill w1 (w.heap.size+2) 0 (lkL 0 false false)) (w.heap.size+2) (lkL 0 false false):=ZR1.fill0 rfl;have hBE:Below w.heap.size w (fill w1 (w.heap.size+2) 0 (lkL 0 false false)):=below_fill om_ _ _ hB1;have HT:Hid (TkR x m w19z):=.inl ⟨fun h=>Bool.false_ne_true (HR.out.2 h),rfl⟩;generalize (fill w1 (w.heap.size+2) 0 (lkL 0 false false))=E at*;refine bodyPost_ret (v:=.agg ((lkL 0 false false):List Value).toArray) (results_blk (P:=prog) (ty:=33) rfl _ E (w.heap.size+2) (lkL 0 false false) _ rfl F underlying33 rfl kr_) rfl ⟨⟨w19z,none,0,HT.out,rfl,⟨.inl rfl,.inl rfl⟩⟩,hBE⟩
 have hK:Hid (WkOk x):=HR.out.1 rfl;have ZS:BlkAt (w1.alloc (.cells (lqA 0 false false (.slice none 0 0)) 57)) w1.heap.size (lqL 0 false false (.slice none 0 0)):=blk_new w1 (lqL 0 false false (.slice none 0 0)) 57;have fS:OpnAt (w1.alloc (.cells (lqA 0 false false (.slice none 0 0)) 57)) w1.heap.size:=opn_new w1 _ 57;have hSome:∀ i,i<((lsL x.no x.up x.has x.of b n m b2 n2 (.slice none 0 0)):List Value).length->((w1.alloc (.cells (lqA 0 false false (.slice none 0 0)) 57)).cell? ⟨w1.heap.size,0+i,none⟩).isSome=true:=fun i hi=>by
  rw [Nat.zero_add];have hz:i<((lqL 0 false false (.slice none 0 0)):List Value).length:=hi;rw [ZS i _ (List.getElem?_eq_getElem hz)];rfl
 have hmark:True:=trivial
 go_wp2_with (first | refine wpList_load_blk rfl 33 (.tmp 2) rfl w.heap.size rfl (lhL x.no x.up x.has x.of b n) _ ZX1 underlying33 rfl kr_ ?_ | refine wpList_load_blk rfl 31 (.tmp 3) rfl (w.heap.size+1) rfl (lgL m b2 n2) _ ZM1 underlying31 rfl kr_ ?_ | refine wpList_val rfl (.build 57 #[(0,.tmp 10),(1,.tmp 11)]) rfl (.agg ((lsL x.no x.up x.has x.of b n m b2 n2 (.slice none 0 0)):List Value).toArray) w1 kr_ ?_ | refine wpList_val rfl (.alloc 57) rfl (.pointer (some ⟨w1.heap.size,0,none⟩)) (w1.alloc (.cells (lqA 0 false false (.slice none 0 0)) 57)) kr_ ?_ | (refine wpList_store_blk rfl 57 (.tmp 5) (.tmp 12) rfl w1.heap.size 0 rfl (lsL x.no x.up x.has x.of b n m b2 n2 (.slice none 0 0)) rfl hSome fS (by simp [Value.oneCell']) kr_ rfl ?_;refine Hid.out ?_))
 unfold Hid;have hW1:Below w1.heap.size w1 (w1.alloc (.cells (lqA 0 false false (.slice none 0 0)) 57)):=bA;have ZSF:BlkAt (fill (w1.alloc (.cells (lqA 0 false false (.slice none 0 0)) 57)) w1.heap.size 0 (lsL x.no x.up x.has x.of b n m b2 n2 (.slice none 0 0))) w1.heap.size (lsL x.no x.up x.has x.of b n m b2 n2 (.slice none 0 0)):=ZS.fill0 sm_;have fSF:OpnAt (fill (w1.alloc (.cells (lqA 0 false false (.slice none 0 0)) 57)) w1.heap.size 0 (lsL x.no x.up x.has x.of b n m b2 n2 (.slice none 0 0))) w1.heap.size:=OpnAt.fill _ _ fS;have hWF:Below w1.heap.size w1 (fill (w1.alloc (.cells (lqA 0 false false (.slice none 0 0)) 57)) w1.heap.size 0 (lsL x.no x.up x.has x.of b n m b2 n2 (.slice none 0 0))):=below_fill lr_ _ _ hW1;have hBF:Below w.heap.size w (fill (w1.alloc (.cells (lqA 0 false false (.slice none 0 0)) 57)) w1.heap.size 0 (lsL x.no x.up x.has x.of b n m b2 n2 (.slice none 0 0))):=bT hB1 hWF;have hzF:w1.heap.size<(fill (w1.alloc (.cells (lqA 0 false false (.slice none 0 0)) 57)) w1.heap.size 0 (lsL x.no x.up x.has x.of b n m b2 n2 (.slice none 0 0))).heap.size:=by rw [size_fill];simp
 have ZRF:=ZR1.below hWF om_;have fRF:=fR1.below hWF om_;clear hSome hmark ZS fS hW1 hWF ZX1 ZM1 ZR1 fR1 hB1;generalize (fill (w1.alloc (.cells (lqA 0 false false (.slice none 0 0)) 57)) w1.heap.size 0 (lsL x.no x.up x.has x.of b n m b2 n2 (.slice none 0 0)))=F at*;generalize w1.heap.size=X at*
 go_wp2_with fail
 refine (c21 x m X b n b2 n2 F HM.out ZSF fSF hzF (lks_below HA2.out hBF)).mono ?_;rintro e w2 ⟨rfl,hu,hf2,hcase⟩;have hF2:Below X F w2:=hu.below lr_ om_;have hB2:Below w.heap.size w w2:=hBF.trans (hF2.mono om_);have ZR2:=ZRF.below hF2 om_;have fR2:=fRF.below hF2 om_;have hz2:X<w2.heap.size:=Nat.lt_of_lt_of_le hzF hu.size;obtain ⟨y,b',n',tail,HT,hl,hZ,hA,hN'⟩:∃ (y:W19) (b':Option Addr) (n':Nat) (tail:List Value),Hid (TkR x m y)/\y.of.ls.length<=1048576/\Hid (BlkAt w2 X ((lhL y.no y.up y.has y.of b' n')++tail))/\Hid (LksAt w2 b' y.of.ls)/\NS b' n' y.of.ls:=by
  rcases hcase with ⟨ho,hz⟩ | ⟨ho,hz⟩
  · exact ⟨⟨x.no,x.up,true,m⟩,b2,n2,[.int .i64 m.kd,.int .i64 m.to,.int .i64 m.fr,.int .i64 m.ep,.int .i64 m.ed,.string m.km.nm,.string m.km.tl,.string m.km.ar,.slice b2 m.ls.length n2,.int .i64 m.ct,.bool m.tn.over,.int .i64 m.tn.cd,.string m.tn.tx,.bool m.tn.has,.string m.tn.nm,.int .i64 m.tn.st,.slice none 0 0],.inr (.inl ⟨hK.out,ho,rfl⟩),HM.out.2.1.1,hz,lks_below HA2.out hB2,hN2⟩
  exact ⟨x,b,n,[.int .i64 m.kd,.int .i64 m.to,.int .i64 m.fr,.int .i64 m.ep,.int .i64 m.ed,.string m.km.nm,.string m.km.tl,.string m.km.ar,.slice b2 m.ls.length n2,.int .i64 m.ct,.bool m.tn.over,.int .i64 m.tn.cd,.string m.tn.tx,.bool m.tn.has,.string m.tn.nm,.int .i64 m.tn.st,.slice none 0 0],.inr (.inr ⟨hK.out,ho,rfl⟩),HX.out.2.1.1,hz,lks_below HA.out hB2,hN⟩
 clear hcase hu hf2 ZSF fSF ZRF fRF hBF
 go_wp2_with fail
 refine (c23 y tail X b' n' w2 hZ.out hz2 hl hA.out hN').mono ?_;rintro e w3 ⟨⟨ao,c,rfl,hlk⟩,hb3⟩;have hB3:Below w.heap.size w w3:=bT hB2 hb3;have ZR3:=ZR2.below hb3 om_;have fR3:=fR2.below hb3 om_;have HLK:Hid (LkOwn w3 X ao y.of.ls):=hlk.mono om_;have hSome:∀ i,i<((lhL y.no y.up y.has y.of ao c):List Value).length->(w3.cell? ⟨w.heap.size+2,0+i,none⟩).isSome=true:=fun i hi=>by
  rw [Nat.zero_add];have hz:i<((lkL 0 false false):List Value).length:=hi;rw [ZR3 i _ (List.getElem?_eq_getElem hz)];rfl
 clear hlk hb3 hB2 ZR2 fR2 hZ hA
 go_wp2_with (refine wpList_store_blk rfl 33 (.tmp 4) (.tmp 15) rfl (w.heap.size+2) 0 rfl (lhL y.no y.up y.has y.of ao c) rfl hSome fR3 (by simp [Value.oneCell']) kr_ rfl ?_)
 have G:BlkAt (fill w3 (w.heap.size+2) 0 (lhL y.no y.up y.has y.of ao c)) (w.heap.size+2) (lhL y.no y.up y.has y.of ao c):=ZR3.fill0 sm_;have hBE:Below w.heap.size w (fill w3 (w.heap.size+2) 0 (lhL y.no y.up y.has y.of ao c)):=below_fill om_ _ _ hB3;have HLE:Hid (LkOwn (fill w3 (w.heap.size+2) 0 (lhL y.no y.up y.has y.of ao c)) w.heap.size ao y.of.ls):=(lkown_fill (w.heap.size+2) _ om_ 0 HLK.out).mono om_;generalize (fill w3 (w.heap.size+2) 0 (lhL y.no y.up y.has y.of ao c))=E at*;refine bodyPost_ret (v:=.agg ((lhL y.no y.up y.has y.of ao c):List Value).toArray) (results_blk (P:=prog) (ty:=33) rfl _ E (w.heap.size+2) (lhL y.no y.up y.has y.of ao c) _ rfl G underlying33 rfl kr_) rfl ⟨⟨y,ao,c,HT.out,rfl,HLE.out⟩,hBE⟩
theorem step_store_blk {P:Program} {ops:Array Oper} {o:Oper} {a:Act} {w:World} {K:Act->World->Prop} {Q:Exit->Act->World->Prop} {E:Prop} (hg:o.guard=none) (ty:TypeId) (x y:Operand) (ho:o.op=.store ty x y)
 (B j:Nat) (hx:a.eval x=.pointer (some ⟨B,j,none⟩)) (vs:List Value) (hy:a.eval y=.agg vs.toArray) (hc:∀ i,i<vs.length->(w.cell? ⟨B,j+i,none⟩).isSome=true) (hf:OpnAt w B) (h1:∀ v∈vs,v.oneCell'=true)
 (hi:(P.info? ty).map (·.size)=some vs.length) (hdst:o.dst=none) (h:K a (fill w B j vs)):
 if Region.wanted o (yielded ops a.tmps)=true then Oper.wp P o a w K Q else E:=by
 have hw:Region.wanted o (yielded ops a.tmps)=true:=by simp [Region.wanted,hg]
 rw [if_pos hw];unfold Oper.wp execOp;simp only [ho,hx,hy,Instr.storeAt,Instr.sureAddr,Sem.run_bind,Sem.run_pure,Result.andThen_ok,run_storeVar_blk w B j ty vs hc hf h1 hi]
 first
  | exact h
  | (simp only [Oper.upon];exact h)
  | (simp only [Oper.upon,hdst];exact h)
theorem BlkAt.but {u u':World} {B g:Nat} {vs:List Value} (h:BlkAt u B vs) (hb:But g u u') (hB:B<u.heap.size) (hne:B≠g):BlkAt u' B vs:=fun j v e=>(hb.cell (p:=⟨B,j,none⟩) hB hne).trans (h j v e)
theorem lks_but {u u':World} {g b:Nat} {is:List L4} (h:LksAt u (some ⟨b,0,none⟩) is) (hb:But g u u') (hne:b≠g):LksAt u' (some ⟨b,0,none⟩) is:=by
 rcases h with h | ⟨b',off,h1,h2,h3⟩
 · exact .inl h
 injection h1 with h1;injection h1 with h1 h4;subst h1;subst h4;refine .inr ⟨b,0,rfl,Nat.lt_of_lt_of_le h2 hb.size,fun i hi=>?_⟩;rw [hb.cell (by exact h2) hne,hb.cell (by exact h2) hne,hb.cell (by exact h2) hne,hb.cell (by exact h2) hne];exact h3 i hi
end Go.Proofs.YthjhakdpikdoeaaGreatDoor.M
namespace Go.Proofs.YthjhakdpikdoeaaGreatDoor
open Proofs.Tryz
open Go.RowKit
theorem info31:(prog.info? 31).map (fun i=>(i.zero,i.size,i.bytes))=some (some (.agg lzA),16,184):=kr_
theorem row16n {w:World} {g:Nat} (hg:g=w.heap.size) (vs:List Value) (t:TypeId):∀ j u,vs[j]?=some u->(w.alloc (.cells vs.toArray t)).cell? ((⟨g,0,none⟩:Addr).add j)=some u:=by
 subst hg;intro j u h;rw [M.adr_add,Nat.zero_add];exact M.blk_new w vs t j u h
theorem row_formN {w:World} {B:Nat} {e:TypeId} {z:Nat} {v:Value} {n:Nat} {xs:List Value} (h:w.ownsRow B e z v n xs):∃ ao c,v=.slice ao n c:=by
 rcases h.2 with ⟨hv,h0⟩ | ⟨g,cap,cur,hv,_⟩
 · exact ⟨none,0,by rw [hv,h0]⟩
 exact ⟨_,_,hv⟩
def nxt (h:Bool) (f B:Nat):Value:=if h=true then .func (.func f) #[.pointer (some ⟨B,0,none⟩)] #[] else .nilFunc
theorem c54 (x:M.W19) (B:Nat) (b:Option Addr) (n:Nat) (w:World) (Z:M.BlkAt w B (lpL x.no x.up x.has x.of b n (.slice none 0 0))) (f:M.OpnAt w B) (hB:B<w.heap.size):
 Calls prog 54 #[.pointer (some ⟨B,0,none⟩)] w fun e w'=>e=.returned (nxt x.has 83 B)/\(∃ v,M.BlkAt w' B (lpL x.no x.up x.has x.of b n v)/\w'.ownsRow (B+1) 31 16 v 1 (loL x.no))/\M.OpnAt w' B/\Below B w w':=by
 have a0:=Z 0 _ rfl;have a35:=Z 35 _ rfl;have d0:w.drew.cell? ⟨B,0,none⟩=some (.int .i64 x.no):=by simpa using a0
 have d35:w.drew.cell? ⟨B,35,none⟩=some (.slice none 0 0):=by simpa using a35
 obtain ⟨i0,hi,hz0,hz1,hz2⟩:=info_parts info31;have HZ:Hid (M.BlkAt w B (lpL x.no x.up x.has x.of b n (.slice none 0 0))):=Z;have HF:Hid (M.OpnAt w B):=f;clear Z f;go_enter func54,ntmps54
 go_wp2_with fail
 refine wp_region_held_drew (S:=(fun u=>u.cell? ⟨B,0,none⟩=some (.int .i64 x.no))) kr_ ?_ fun hHeld=>?_
 · ((try dsimp only);go_keep)
 refine tq 0 hHeld ?_
 try simp only [qq]
 refine tq 1 hHeld ?_
 try simp only [qq]
 refine tq 2 hHeld ?_
 try simp only [qq]
 refine tq 3 hHeld ?_
 try simp only [qq]
 refine tq 5 hHeld ?_
 try simp only [qq]
 refine tq 6 hHeld ?_
 try simp only [qq]
 refine tq 7 hHeld ?_
 try simp only [qq]
 refine tq 8 hHeld ?_
 try simp only [qq]
 refine tq 9 hHeld ?_
 try simp only [qq]
 refine tq 10 hHeld ?_
 try simp only [qq]
 refine wpAnyH_ready (rs:=[4,11]) kr_ sm_ ?_;refine AllReadyH.cons (o:=⟨some 7,.load 37 (.tmp 6),37,_,_,none⟩) rfl (fun K hK=>?_) (AllReadyH.cons (o:=⟨some 14,.buildSlice 37 1 #[(0,.tmp 13)],37,_,_,none⟩) rfl (fun K hK=>?_) AllReadyH.nil)
 · go_simp
   clear hHeld;refine hK.out _ _ ?_ fun hHeld=>?_
   · ((try dsimp only);go_keep)
   clear hK K
   try simp only [qq]
   refine rq 11 fun K hK=>?_;go_simp;clear hHeld;refine hK.out _ _ ?_ fun hHeld=>?_
   · ((try dsimp only);go_keep)
   clear hK K
   try simp only [qq]
   refine rq 12 fun K hK=>?_;refine step_app rfl (.tmp 7) (.tmp 14) 37 rfl (B+1) 31 i0 (.agg lzA) 16 184 underlying37 hi hz0 hz1 hz2 rfl dc_ _ _ _ rfl (World.ownsRow_nil _ _ _ _) ⟨w.heap.size,0,none⟩ 1 1 (loL x.no) rfl rfl (row16n sm_ (loL x.no) 31) (by simp [Value.oneCell']) (by unfold maxLen;omega) om_ so_ ?_;intro v' w4 hown4 hgrow;have hbl:∀ k,k<w.heap.size->w4.heap[k]?=w.heap[k]?:=fun k hk=>(hgrow.block k so_ (fun e=>by cases e)).trans (by first | exact Lib.alloc_old w.drew _ k hk | exact Lib.alloc_old w _ k hk);have HB4:Hid (Below B w w4):=((Below.refl B w).drew.alloc so_ _).grown hgrow so_ (fun k hk=>by cases hk);have HZ4:Hid (M.BlkAt w4 B (lpL x.no x.up x.has x.of b n (.slice none 0 0))):=fun j v e=>(World.cell?_of_block (a:=⟨B,j,none⟩) (hbl B hB)).trans (HZ.out j v e);have HF4:Hid (M.OpnAt w4 B):=fun j=>(World.frozen?_of_block (a:=⟨B,j,none⟩) (hbl B hB)).trans (HF.out j);obtain ⟨ao,cp,rfl⟩:=row_formN hown4;have HO4:Hid (w4.ownsRow (B+1) 31 16 (.slice ao 1 cp) 1 (loL x.no)):=hown4;have hz4:w.heap.size<=w4.heap.size:=by have:=hgrow.size;simp at this;omega
   have b0:=HZ4.out 0 _ rfl;have b35:=HZ4.out 35 _ rfl;have g35:=HF4.out 35;clear hgrow hown4 hbl;clear hHeld;refine hK.out _ _ ?_ fun hHeld=>?_
   · ((try dsimp only);go_keep)
   clear hK K
   try simp only [qq]
   refine tq 13 hHeld ?_
   try simp only [qq]
   refine tq 14 hHeld ?_
   try simp only [qq]
   refine rq 15 fun K hK=>?_;go_simp;have c0:(w4.setCell ⟨B,35,none⟩ (.slice ao 1 cp)).cell? ⟨B,0,none⟩=some (.int .i64 x.no):=by rw [World.cell?_setCell_other _ _ _ _ (adr_ne om_)];exact b0
   clear hHeld;refine hK.out _ _ ?_ fun hHeld=>?_
   · ((try dsimp only);go_keep)
   clear hK K
   try simp only [qq]
   refine wpAnyH_done kr_ ?_ _;clear hHeld;have HZ5:Hid (M.BlkAt (w4.setCell ⟨B,35,none⟩ (.slice ao 1 cp)) B (lpL x.no x.up x.has x.of b n (.slice ao 1 cp))):=HZ4.out.set 35 (.slice ao 1 cp) sm_;have HF5:Hid (M.OpnAt (w4.setCell ⟨B,35,none⟩ (.slice ao 1 cp)) B):=HF4.out.set _ _;have HO5:Hid ((w4.setCell ⟨B,35,none⟩ (.slice ao 1 cp)).ownsRow (B+1) 31 16 (.slice ao 1 cp) 1 (loL x.no)):=ownsRow_setCell_below HO4.out (by show B<B+1;omega) _;have HB5:Hid (Below B w (w4.setCell ⟨B,35,none⟩ (.slice ao 1 cp))):=HB4.out.setCell (by exact Nat.le_refl B) _;have c2:=HZ5.out 2 _ rfl;generalize (w4.setCell ⟨B,35,none⟩ (.slice ao 1 cp))=w5 at*;have hcase:x.has=true\/x.has=false:=by cases x.has <;> simp
   have HX:Hid (x.has=x.has):=rfl;rcases hcase with hh | hh
   · rw [hh] at c2
     have HH:Hid (x.has=true):=hh;clear hh HZ HF HZ4 HF4 HO4 HB4 b0 b35 g35 c0 a0 a35 d0 d35;go_wp2
     try go_region
     all_goals (try go_wp2)
     all_goals go_ret
     all_goals exact ⟨by rw [HH.out];rfl,⟨_,HZ5.out,HO5.out⟩,HF5.out,HB5.out⟩
   rw [hh] at c2;have HH:Hid (x.has=false):=hh;clear hh HZ HF HZ4 HF4 HO4 HB4 b0 b35 g35 c0 a0 a35 d0 d35;go_wp2
   try go_region
   all_goals (try go_wp2)
   all_goals go_ret
   all_goals exact ⟨by rw [HH.out];rfl,⟨_,HZ5.out,HO5.out⟩,HF5.out,HB5.out⟩
 go_simp;clear hHeld;refine hK.out _ _ ?_ fun hHeld=>?_
 · ((try dsimp only);go_keep)
 clear hK K
 try simp only [qq]
 refine rq 4 fun K hK=>?_;go_simp;clear hHeld;refine hK.out _ _ ?_ fun hHeld=>?_
 · ((try dsimp only);go_keep)
 clear hK K
 try simp only [qq]
 refine rq 12 fun K hK=>?_;refine step_app rfl (.tmp 7) (.tmp 14) 37 rfl (B+1) 31 i0 (.agg lzA) 16 184 underlying37 hi hz0 hz1 hz2 rfl dc_ _ _ _ rfl (World.ownsRow_nil _ _ _ _) ⟨w.heap.size,0,none⟩ 1 1 (loL x.no) rfl rfl (row16n sm_ (loL x.no) 31) (by simp [Value.oneCell']) (by unfold maxLen;omega) om_ so_ ?_;intro v' w4 hown4 hgrow;have hbl:∀ k,k<w.heap.size->w4.heap[k]?=w.heap[k]?:=fun k hk=>(hgrow.block k so_ (fun e=>by cases e)).trans (by first | exact Lib.alloc_old w.drew _ k hk | exact Lib.alloc_old w _ k hk);have HB4:Hid (Below B w w4):=((Below.refl B w).drew.alloc so_ _).grown hgrow so_ (fun k hk=>by cases hk);have HZ4:Hid (M.BlkAt w4 B (lpL x.no x.up x.has x.of b n (.slice none 0 0))):=fun j v e=>(World.cell?_of_block (a:=⟨B,j,none⟩) (hbl B hB)).trans (HZ.out j v e);have HF4:Hid (M.OpnAt w4 B):=fun j=>(World.frozen?_of_block (a:=⟨B,j,none⟩) (hbl B hB)).trans (HF.out j);obtain ⟨ao,cp,rfl⟩:=row_formN hown4;have HO4:Hid (w4.ownsRow (B+1) 31 16 (.slice ao 1 cp) 1 (loL x.no)):=hown4;have hz4:w.heap.size<=w4.heap.size:=by have:=hgrow.size;simp at this;omega
 have b0:=HZ4.out 0 _ rfl;have b35:=HZ4.out 35 _ rfl;have g35:=HF4.out 35;clear hgrow hown4 hbl;clear hHeld;refine hK.out _ _ ?_ fun hHeld=>?_
 · ((try dsimp only);go_keep)
 clear hK K
 try simp only [qq]
 refine tq 13 hHeld ?_
 try simp only [qq]
 refine tq 14 hHeld ?_
 try simp only [qq]
 refine rq 15 fun K hK=>?_;go_simp;have c0:(w4.setCell ⟨B,35,none⟩ (.slice ao 1 cp)).cell? ⟨B,0,none⟩=some (.int .i64 x.no):=by rw [World.cell?_setCell_other _ _ _ _ (adr_ne om_)];exact b0
 clear hHeld;refine hK.out _ _ ?_ fun hHeld=>?_
 · ((try dsimp only);go_keep)
 clear hK K
 try simp only [qq]
 refine wpAnyH_done kr_ ?_ _;clear hHeld;have HZ5:Hid (M.BlkAt (w4.setCell ⟨B,35,none⟩ (.slice ao 1 cp)) B (lpL x.no x.up x.has x.of b n (.slice ao 1 cp))):=HZ4.out.set 35 (.slice ao 1 cp) sm_;have HF5:Hid (M.OpnAt (w4.setCell ⟨B,35,none⟩ (.slice ao 1 cp)) B):=HF4.out.set _ _;have HO5:Hid ((w4.setCell ⟨B,35,none⟩ (.slice ao 1 cp)).ownsRow (B+1) 31 16 (.slice ao 1 cp) 1 (loL x.no)):=ownsRow_setCell_below HO4.out (by show B<B+1;omega) _;have HB5:Hid (Below B w (w4.setCell ⟨B,35,none⟩ (.slice ao 1 cp))):=HB4.out.setCell (by exact Nat.le_refl B) _;have c2:=HZ5.out 2 _ rfl;generalize (w4.setCell ⟨B,35,none⟩ (.slice ao 1 cp))=w5 at*;have hcase:x.has=true\/x.has=false:=by cases x.has <;> simp
 have HX:Hid (x.has=x.has):=rfl;rcases hcase with hh | hh
 · rw [hh] at c2
   have HH:Hid (x.has=true):=hh;clear hh HZ HF HZ4 HF4 HO4 HB4 b0 b35 g35 c0 a0 a35 d0 d35;go_wp2
   try go_region
   all_goals (try go_wp2)
   all_goals go_ret
   all_goals exact ⟨by rw [HH.out];rfl,⟨_,HZ5.out,HO5.out⟩,HF5.out,HB5.out⟩
 rw [hh] at c2;have HH:Hid (x.has=false):=hh;clear hh HZ HF HZ4 HF4 HO4 HB4 b0 b35 g35 c0 a0 a35 d0 d35;go_wp2
 try go_region
 all_goals (try go_wp2)
 all_goals go_ret
 all_goals exact ⟨by rw [HH.out];rfl,⟨_,HZ5.out,HO5.out⟩,HF5.out,HB5.out⟩
end Go.Proofs.YthjhakdpikdoeaaGreatDoor
