import Derived.Test.YthjhakdpikdoeaaGreatDoorKH6
import Derived.Test.YthjhakdpikdoeaaGreatDoorKH2
set_option linter.unusedVariables false
set_option maxHeartbeats 8000000
set_option maxRecDepth 100000
namespace Go.Proofs.YthjhakdpikdoeaaGreatDoor
open Proofs.Tryz
open Go.RowKit
def ShAt (u:World) (B:Nat) (x:M.W19) (b:Option Addr) (n:Nat) (v:Value):Prop:=M.BlkAt u B (lpL x.no x.up x.has x.of b n v)
def Sh0At (u:World) (B:Nat) (x:M.W19) (v:Value):Prop:=M.BlkAt u B (lqL x.no x.up false v)
def Out1 (u:World) (B:Nat) (x:M.W19) (v:Value):Prop:=u.ownsRow (B+1) 31 16 v 1 (loL x.no)
def Out2 (u:World) (B:Nat) (x:M.W19) (t:TN) (v:Value):Prop:=u.ownsRow (B+1) 31 16 v 2 ((loL x.no)++[.int .i64 2,.int .i64 0,.int .i64 x.no,.int .i64 x.of.ep,.int .i64 x.of.ed,.string x.of.km.nm,.string ⟨#[]⟩,.string ⟨#[]⟩,.slice none 0 0,.int .i64 x.of.ls.length,.bool t.over,.int .i64 t.code,.string t.text,.bool t.has,.string t.name,.int .i64 t.steps])
def FinS (u:World) (B:Nat) (x:M.W19) (t:TN) (b:Option Addr) (n:Nat):Prop:=(x.up=false/\ShAt u B x b n (.slice none 0 0))\/(x.up=true/\x.has=false/\∃ v,ShAt u B x b n v/\Out1 u B x v)\/(x.up=true/\x.has=true/\∃ v,Sh0At u B x v/\Out2 u B x t v)
theorem lks_base {B:Nat} {b:Option Addr} {w w':World} {ls:List M.L4} (h:M.LksAt w b ls) (hb:Below B w w') (hB:ls=[]\/∀ g off,b=some ⟨g,off,none⟩->g<B):M.LksAt w' b ls:=by
 rcases hB with hB | hB
 · exact .inl hB
 rcases h with h | ⟨g,off,h1,h2,h3⟩
 · exact .inl h
 have hB:=hB g off h1;refine .inr ⟨g,off,h1,Nat.lt_of_lt_of_le h2 hb.size,fun i hi=>?_⟩;obtain ⟨x0,x1,x2,x3⟩:=h3 i hi;exact ⟨(hb.cell (p:=⟨g,off+i*4,none⟩) hB).trans x0,(hb.cell (p:=⟨g,off+i*4+1,none⟩) hB).trans x1,(hb.cell (p:=⟨g,off+i*4+2,none⟩) hB).trans x2,(hb.cell (p:=⟨g,off+i*4+3,none⟩) hB).trans x3⟩
theorem c21t (x:M.W19) (t:TN) (B:Nat) (b:Option Addr) (n:Nat) (w:World) (Z:ShAt w B x b n (.slice none 0 0)) (f:M.OpnAt w B) (hB:B<w.heap.size) (hb:x.of.ls=[]\/∀ g off,b=some ⟨g,off,none⟩->g<B) (hB2:2<=B) (hm:x.of.km.le 1048576) (hl:x.of.ls.length<=1048576) (hs:∀ i,(x.of.ls.getD i M.l4z).le 1048576) (hat:M.LksAt w b x.of.ls) (hsh:ShapesAt w) (hmx:MaxAt w) (ht:goT x.of.km x.of.ls=t):
 Calls prog 21 #[.pointer (some ⟨B,0,none⟩),.func (.func 24) #[.pointer (some ⟨B,0,none⟩)] #[]] w fun e w'=>e=.returned (.tuple #[])/\FinS w' B x t b n/\M.OpnAt w' B/\Below B w w':=by
 have HZ:Hid (ShAt w B x b n (.slice none 0 0)):=Z;have HF:Hid (M.OpnAt w B):=f;have HA:Hid (M.LksAt w b x.of.ls):=hat;have HSH:Hid (ShapesAt w):=hsh;have HMX:Hid (MaxAt w):=hmx;have HM:Hid (x.of.km.le 1048576):=hm;have HS:Hid (∀ i,(x.of.ls.getD i M.l4z).le 1048576):=hs;have HT:Hid (goT x.of.km x.of.ls=t):=ht;have n48:∀ u,(binOp .neq 101 (.func (.func 24) #[.pointer (some ⟨B,0,none⟩)] #[]) .nilFunc).run prog u=.ok (.bool true) u:=fun u=>kr_;have n95:∀ u,(binOp .neq 101 (.func (.func 54) #[.pointer (some ⟨B,0,none⟩)] #[]) .nilFunc).run prog u=.ok (.bool true) u:=fun u=>kr_;have n124:∀ u,(binOp .neq 101 (.func (.func 83) #[.pointer (some ⟨B,0,none⟩)] #[]) .nilFunc).run prog u=.ok (.bool true) u:=fun u=>kr_;have n139:∀ u,(binOp .neq 101 (.func (.func 102) #[.pointer (some ⟨B,0,none⟩)] #[]) .nilFunc).run prog u=.ok (.bool true) u:=fun u=>kr_;have n0:∀ u,(binOp .neq 101 .nilFunc .nilFunc).run prog u=.ok (.bool false) u:=fun u=>kr_;clear Z f hat hsh hmx hm hs ht;go_enter func21,ntmps21
 go_wp2_with fail
 go_loopw [4] (fun v wr=>(v=.func (.func 24) #[.pointer (some ⟨B,0,none⟩)] #[]/\Hid (Below w.heap.size w wr))\/(v=.func (.func 54) #[.pointer (some ⟨B,0,none⟩)] #[]/\Hid (x.up=true)/\Hid (Below w.heap.size w wr))\/(v=.func (.func 83) #[.pointer (some ⟨B,0,none⟩)] #[]/\Hid (x.up=true/\x.has=true)/\Hid (∃ v1,ShAt wr B x b n v1/\Out1 wr B x v1)/\Hid (M.OpnAt wr B)/\Hid (Below B w wr)/\B<wr.heap.size)\/(v=.func (.func 102) #[.pointer (some ⟨B,0,none⟩)] #[]/\Hid (x.up=true/\x.has=true)/\Hid (∃ v2,ShAt wr B x b n v2/\Out2 wr B x t v2)/\Hid (M.OpnAt wr B)/\Hid (Below B w wr)/\B<wr.heap.size)\/(v=.nilFunc/\Hid (FinS wr B x t b n)/\Hid (M.OpnAt wr B)/\Hid (Below B w wr))) (fun v _=>match v with | .func (.func 24) _ _=>4 | .func (.func 54) _ _=>3 | .func (.func 83) _ _=>2 | .func (.func 102) _ _=>1 | _=>0)
 case atStart=>exact .inl ⟨rfl,Below.refl _ _⟩
 case round=>
  rcases hrel with ⟨rfl,hb1⟩ | ⟨rfl,hu,hb1⟩ | ⟨rfl,huh,hv,ho,hb1,hz⟩ | ⟨rfl,huh,hv,ho,hb1,hz⟩ | ⟨rfl,hf,ho,hb1⟩
  · go_wp2_with fail
    refine (c24 x B b n _ wr (HZ.out.below hb1.out hB)).mono ?_;rintro e w1 ⟨rfl,hb2⟩;have HB2:Hid (Below w.heap.size w w1):=bT hb1.out hb2;clear hb2;have hcase:x.up=true\/x.up=false:=by cases x.up <;> simp
    rcases hcase with hh | hh
    · have HH:Hid (x.up=true):=hh
      have e:nxt x.up 54 B=.func (.func 54) #[.pointer (some ⟨B,0,none⟩)] #[]:=by rw [hh];rfl
      rw [e];clear hh e;go_wp2;go_roundw
      case rel=>exact .inr (.inl ⟨rfl,HH,HB2⟩)
      case measure=>simp
    have HH:Hid (x.up=false):=hh;have e:nxt x.up 54 B=.nilFunc:=by rw [hh];rfl
    rw [e];clear hh e;have HFS:Hid (FinS w1 B x t b n):=.inl ⟨HH.out,M.BlkAt.below HZ.out HB2.out hB⟩;have HO:Hid (M.OpnAt w1 B):=HF.out.below HB2.out hB;have HB3:Hid (Below B w w1):=HB2.out.mono om_;go_wp2;go_roundw
    case rel=>exact .inr (.inr (.inr (.inr ⟨rfl,HFS,HO,HB3⟩)))
    case measure=>simp
  · go_wp2_with fail
    refine (c54 x B b n wr (HZ.out.below hb1.out hB) (HF.out.below hb1.out hB) (Nat.lt_of_lt_of_le hB hb1.out.size)).mono ?_;rintro e w1 ⟨rfl,hv,hf,hb2⟩;have HV:Hid (∃ v1,ShAt w1 B x b n v1/\Out1 w1 B x v1):=hv;have HO:Hid (M.OpnAt w1 B):=hf;have HB3:Hid (Below B w w1):=(hb1.out.mono om_).trans hb2;have hz1:B<w1.heap.size:=Nat.lt_of_lt_of_le (Nat.lt_of_lt_of_le hB hb1.out.size) hb2.size;clear hv hf hb2;have hcase:x.has=true\/x.has=false:=by cases x.has <;> simp
    rcases hcase with hh | hh
    · have HH:Hid (x.up=true/\x.has=true):=⟨hu.out,hh⟩
      have e:nxt x.has 83 B=.func (.func 83) #[.pointer (some ⟨B,0,none⟩)] #[]:=by rw [hh];rfl
      rw [e];clear hh e;go_wp2;go_roundw
      case rel=>exact .inr (.inr (.inl ⟨rfl,HH,HV,HO,HB3,hz1⟩))
      case measure=>simp
    have HFS:Hid (FinS w1 B x t b n):=.inr (.inl ⟨hu.out,hh,HV.out⟩);have e:nxt x.has 83 B=.nilFunc:=by rw [hh];rfl
    rw [e];clear hh e;go_wp2;go_roundw
    case rel=>exact .inr (.inr (.inr (.inr ⟨rfl,HFS,HO,HB3⟩)))
    case measure=>simp
  · obtain ⟨v1,hz1,ho1⟩:=hv.out
    obtain ⟨a1,c1,rfl⟩:=row_formN ho1;have HZ1:Hid (ShAt wr B x b n (.slice a1 1 c1)):=hz1;have HO1:Hid (Out1 wr B x (.slice a1 1 c1)):=ho1;clear hz1 ho1
    go_wp2_with fail
    refine (c83 x t B b n a1 c1 wr HZ1.out ho.out hz HO1.out HM.out hl HS.out (lks_base HA.out hb1.out hb) (shapes_base HSH.out hb1.out hB2) (max_base HMX.out hb1.out hB2) HT.out).mono ?_;rintro e w1 ⟨rfl,hv2,hf,hb2⟩;have HV:Hid (∃ v2,ShAt w1 B x b n v2/\Out2 w1 B x t v2):=hv2;have HO:Hid (M.OpnAt w1 B):=hf;have HB3:Hid (Below B w w1):=hb1.out.trans hb2;have hz1:B<w1.heap.size:=Nat.lt_of_lt_of_le hz hb2.size;clear hv2 hf hb2;go_wp2;go_roundw
    case rel=>exact .inr (.inr (.inr (.inl ⟨rfl,huh,HV,HO,HB3,hz1⟩)))
    case measure=>simp
  · obtain ⟨v2,hz2,ho2⟩:=hv.out
    have HZ2:Hid (ShAt wr B x b n v2):=hz2;have HO2:Hid (Out2 wr B x t v2):=ho2;clear hz2 ho2
    go_wp2_with fail
    refine (c102 x B b n v2 wr HZ2.out ho.out).mono ?_;rintro e w1 ⟨rfl,hz3,hf,hbu⟩;have HFS:Hid (FinS w1 B x t b n):=.inr (.inr ⟨huh.out.1,huh.out.2,v2,hz3,ownsRow_keep HO2.out fun k hk=>by
     obtain ⟨hk1,cur,hc⟩:=own_block HO2.out hk;exact hbu.block k (blk_lt hc) om_⟩)
    have HO:Hid (M.OpnAt w1 B):=hf;have HB3:Hid (Below B w w1):=hb1.out.trans (hbu.below lr_ om_);clear hz3 hf hbu;go_wp2;go_roundw
    case rel=>exact .inr (.inr (.inr (.inr ⟨rfl,HFS,HO,HB3⟩)))
    case measure=>simp
  go_wp2;refine bodyPost_end (v:=.tuple #[]) (by simp [results,Tryz.results21,go_sem]) rfl ⟨rfl,hf.out,ho.out,hb1.out⟩
theorem results_blk2 {P:Program} {fn:Func} {p q:Tmp} {ty:TypeId} (h:fn.results=#[.cell p ty,.tmp q]) (tmps:Array Value) (w:World) (B:Nat) (cs:List Value) (d:TypeDesc) (v:Value)
 (hp:tmps.getD p undef=.pointer (some ⟨B,0,none⟩)) (hq:tmps.getD q undef=v) (hc:M.BlkAt w B cs)
 (hu:P.underlying ty=some d) (hd:(match d with | .struct _ | .array _ _=>true | _=>false)=true) (hi:(P.info? ty).map (·.size)=some cs.length):
 (results fn tmps).run P w=.ok (.tuple #[.agg cs.toArray,v]) w:=by
 have hp':tmps[p]?.getD undef=.pointer (some ⟨B,0,none⟩):=by simpa using hp
 have hq':tmps[q]?.getD undef=v:=by simpa using hq
 simp [results,h,hp',hq',asAddr,M.run_loadVar_blk w B ty cs d hc hu hd hi]
def TickR (x:M.W19) (t:TN) (y:M.W19) (k:Nat) (C:List Value):Prop:=(¬ M.WkOk x/\y=M.w19z/\k=0/\C=[])\/(M.WkOk x/\x.up=false/\y=x/\k=0/\C=[])\/(M.WkOk x/\x.up=true/\x.has=false/\y=x/\k=1/\C=(loL x.no))\/(M.WkOk x/\x.up=true/\x.has=true/\y=⟨x.no,x.up,false,M.g16z⟩/\k=2/\C=(loL x.no)++[.int .i64 2,.int .i64 0,.int .i64 x.no,.int .i64 x.of.ep,.int .i64 x.of.ed,.string x.of.km.nm,.string ⟨#[]⟩,.string ⟨#[]⟩,.slice none 0 0,.int .i64 x.of.ls.length,.bool t.over,.int .i64 t.code,.string t.text,.bool t.has,.string t.name,.int .i64 t.steps])
theorem tick_one {x:M.W19} {t:TN} {y y':M.W19} {k k':Nat} {C C':List Value} (h:TickR x t y k C) (h':TickR x t y' k' C'):y=y'/\k=k'/\C=C':=by
 rcases h with ⟨a,rfl,rfl,rfl⟩ | ⟨a,b,rfl,rfl,rfl⟩ | ⟨a,b,c,rfl,rfl,rfl⟩ | ⟨a,b,c,rfl,rfl,rfl⟩ <;> rcases h' with ⟨a',rfl,rfl,rfl⟩ | ⟨a',b',rfl,rfl,rfl⟩ | ⟨a',b',c',rfl,rfl,rfl⟩ | ⟨a',b',c',rfl,rfl,rfl⟩ <;> first | exact ⟨rfl,rfl,rfl⟩ | exact absurd a' a | exact absurd a a' | exact absurd (b.symm.trans b') dc_ | exact absurd (c.symm.trans c') dc_
theorem c6 (x:M.W19) (t:TN) (b:Option Addr) (n:Nat) (w:World) (hx:x.of.le 1048576) (hat:M.LksAt w b x.of.ls) (hN:M.NS b n x.of.ls) (hsh:ShapesAt w) (hmx:MaxAt w) (ht:goT x.of.km x.of.ls=t):
 Calls prog 6 #[.agg (lhA x.no x.up x.has x.of b n)] w fun e w'=>(∃ (y:M.W19) (k:Nat) (C:List Value) (ao:Option Addr) (c:Nat) (v:Value),e=.returned (.tuple #[.agg (lhA y.no y.up y.has y.of ao c),v])/\TickR x t y k C/\M.LkOwn w' w.heap.size ao y.of.ls/\w'.ownsRow w.heap.size 31 16 v k C)/\Below w.heap.size w w':=by
 have HA:Hid (M.LksAt w b x.of.ls):=hat;have HX:Hid (x.of.le 1048576):=hx;have HSH:Hid (ShapesAt w):=hsh;have HMX:Hid (MaxAt w):=hmx;have HT:Hid (goT x.of.km x.of.ls=t):=ht;clear hat hx hsh hmx ht;have ZX:M.BlkAt ((w.alloc (.cells (lhA x.no x.up x.has x.of b n) 33)).alloc (.cells (lkA 0 false false) 33)) w.heap.size (lhL x.no x.up x.has x.of b n):=(M.blk_new w (lhL x.no x.up x.has x.of b n) 33).below (N:=w.heap.size+1) ((Below.refl _ _).alloc sm_ _) (Nat.lt_succ_self _);have ZR:M.BlkAt ((w.alloc (.cells (lhA x.no x.up x.has x.of b n) 33)).alloc (.cells (lkA 0 false false) 33)) (w.heap.size+1) (lkL 0 false false):=by
  have h:=M.blk_new (w.alloc (.cells (lhA x.no x.up x.has x.of b n) 33)) (lkL 0 false false) 33;simpa using h
 go_enter func6,ntmps6
 go_wp2_with (refine M.wpList_load_blk rfl 33 _ rfl w.heap.size rfl (lhL x.no x.up x.has x.of b n) _ ZX underlying33 rfl kr_ ?_)
 obtain ⟨V,hV⟩:∃ V,V=((w.alloc (.cells (lhA x.no x.up x.has x.of b n) 33)).alloc (.cells (lkA 0 false false) 33)):=⟨_,rfl⟩;rw [<- hV];have hB0:Below w.heap.size w V:=by rw [hV];exact bA.alloc sm_ _
 have hz0:V.heap.size=w.heap.size+2:=by rw [hV];simp
 have fR:M.OpnAt V (w.heap.size+1):=by
  rw [hV];have h:=M.opn_new (w.alloc (.cells (lhA x.no x.up x.has x.of b n) 33)) (lkA 0 false false) 33;simpa using h
 rw [<- hV] at ZX ZR;clear hV;refine (M.c12 x b n V HX.out (M.lks_below HA.out hB0)).mono ?_;rintro e w1 ⟨⟨r,rfl,hr⟩,hb1⟩;have HR:Hid (r=true↔M.WkOk x):=hr;have hB1:Below w.heap.size w w1:=bT hB0 hb1;have hz1:w.heap.size+2<=w1.heap.size:=by rw [<- hz0];exact hb1.size
 have ZX1:=ZX.below hb1 om_;have ZR1:=ZR.below hb1 om_;have fR1:=fR.below hb1 om_;clear hr hb1 ZX ZR fR hB0 hz0;cases r
 · have hSome:∀ i,i<((lkL 0 false false):List Value).length->(w1.cell? ⟨w.heap.size+1,0+i,none⟩).isSome=true:=fun i hi=>by
    rw [Nat.zero_add,ZR1 i _ (List.getElem?_eq_getElem hi)];rfl
   go_wp2_with (refine M.wpList_store_blk rfl 33 _ _ rfl (w.heap.size+1) 0 rfl (lkL 0 false false) rfl hSome fR1 (by simp [Value.oneCell']) kr_ rfl ?_)
   have F:M.BlkAt (M.fill w1 (w.heap.size+1) 0 (lkL 0 false false)) (w.heap.size+1) (lkL 0 false false):=ZR1.fill0 rfl;have hBE:Below w.heap.size w (M.fill w1 (w.heap.size+1) 0 (lkL 0 false false)):=M.below_fill om_ _ _ hB1;have HTR:Hid (TickR x t M.w19z 0 []):=.inl ⟨fun h=>Bool.false_ne_true (HR.out.2 h),rfl,rfl,rfl⟩;generalize (M.fill w1 (w.heap.size+1) 0 (lkL 0 false false))=U at*;refine bodyPost_ret (v:=.tuple #[.agg (lkA 0 false false),.slice none 0 0]) (results_blk2 (P:=prog) (ty:=33) rfl _ U (w.heap.size+1) (lkL 0 false false) _ _ rfl rfl F underlying33 rfl kr_) rfl ⟨⟨M.w19z,0,[],none,0,.slice none 0 0,rfl,HTR.out,?_,World.ownsRow_nil _ _ _ _⟩,hBE⟩;exact ⟨.inl rfl,.inl rfl⟩
 have hmark:True:=trivial;have hK:Hid (M.WkOk x):=HR.out.1 rfl;have ZS:M.BlkAt (w1.alloc (.cells (lqA 0 false false (.slice none 0 0)) 57)) w1.heap.size (lqL 0 false false (.slice none 0 0)):=M.blk_new w1 (lqL 0 false false (.slice none 0 0)) 57;have fS:M.OpnAt (w1.alloc (.cells (lqA 0 false false (.slice none 0 0)) 57)) w1.heap.size:=M.opn_new w1 _ 57;have hSome:∀ i,i<((lpL x.no x.up x.has x.of b n (.slice none 0 0)):List Value).length->((w1.alloc (.cells (lqA 0 false false (.slice none 0 0)) 57)).cell? ⟨w1.heap.size,0+i,none⟩).isSome=true:=fun i hi=>by
  have hz:i<((lqL 0 false false (.slice none 0 0)):List Value).length:=hi;rw [Nat.zero_add,ZS i _ (List.getElem?_eq_getElem hz)];rfl
 go_wp2_with (first | refine M.wpList_load_blk rfl 33 (.tmp 1) rfl w.heap.size rfl (lhL x.no x.up x.has x.of b n) _ ZX1 underlying33 rfl kr_ ?_ | refine M.wpList_val rfl (.build 57 #[(0,.tmp 9)]) rfl (.agg ((lpL x.no x.up x.has x.of b n (.slice none 0 0)):List Value).toArray) w1 kr_ ?_ | refine M.wpList_val rfl (.alloc 57) rfl (.pointer (some ⟨w1.heap.size,0,none⟩)) (w1.alloc (.cells (lqA 0 false false (.slice none 0 0)) 57)) kr_ ?_ | (refine M.wpList_store_blk rfl 57 (.tmp 4) (.tmp 10) rfl w1.heap.size 0 rfl (lpL x.no x.up x.has x.of b n (.slice none 0 0)) rfl hSome fS (by simp [Value.oneCell']) kr_ rfl ?_;refine Hid.out ?_))
 unfold Hid;have hW1:Below w1.heap.size w1 (w1.alloc (.cells (lqA 0 false false (.slice none 0 0)) 57)):=bA;have ZSF:ShAt (M.fill (w1.alloc (.cells (lqA 0 false false (.slice none 0 0)) 57)) w1.heap.size 0 (lpL x.no x.up x.has x.of b n (.slice none 0 0))) w1.heap.size x b n (.slice none 0 0):=ZS.fill0 rfl;have fSF:M.OpnAt (M.fill (w1.alloc (.cells (lqA 0 false false (.slice none 0 0)) 57)) w1.heap.size 0 (lpL x.no x.up x.has x.of b n (.slice none 0 0))) w1.heap.size:=M.OpnAt.fill _ _ fS;have hWF:Below w1.heap.size w1 (M.fill (w1.alloc (.cells (lqA 0 false false (.slice none 0 0)) 57)) w1.heap.size 0 (lpL x.no x.up x.has x.of b n (.slice none 0 0))):=M.below_fill lr_ _ _ hW1;have hBF:Below w.heap.size w (M.fill (w1.alloc (.cells (lqA 0 false false (.slice none 0 0)) 57)) w1.heap.size 0 (lpL x.no x.up x.has x.of b n (.slice none 0 0))):=hB1.trans (hWF.mono om_);have hzF:w1.heap.size<(M.fill (w1.alloc (.cells (lqA 0 false false (.slice none 0 0)) 57)) w1.heap.size 0 (lpL x.no x.up x.has x.of b n (.slice none 0 0))).heap.size:=by rw [M.size_fill];simp
 have ZRF:=ZR1.below hWF om_;have fRF:=fR1.below hWF om_;clear hSome hmark ZS fS hW1 hWF ZX1 ZR1 fR1 hB1;generalize (M.fill (w1.alloc (.cells (lqA 0 false false (.slice none 0 0)) 57)) w1.heap.size 0 (lpL x.no x.up x.has x.of b n (.slice none 0 0)))=F at*;generalize w1.heap.size=X at*;have hbX:Hid (x.of.ls=[]\/∀ g off,b=some ⟨g,off,none⟩->g<X):=by
  rcases HA.out with h | ⟨g,off,h1,h2,_⟩
  · exact .inl h
  exact .inr fun g' off' e=>by
   rw [h1] at e;injection e with e;injection e with e _ _;omega
 go_wp2_with fail
 refine (c21t x t X b n F ZSF fSF hzF hbX.out om_ HX.out.1 HX.out.2.1.1 HX.out.2.1.2 (M.lks_below HA.out hBF) (shapes_below HSH.out hBF) (max_below HMX.out hBF) HT.out).mono ?_;rintro e w2 ⟨rfl,hfin,hf2,hF2⟩;have HFI:Hid (FinS w2 X x t b n):=hfin;have hB2:Below w.heap.size w w2:=hBF.trans (hF2.mono om_);have ZR2:=ZRF.below hF2 om_;have fR2:=fRF.below hF2 om_;have hz2:X<w2.heap.size:=Nat.lt_of_lt_of_le hzF hF2.size;clear hfin hf2 ZSF fSF ZRF fRF hBF;have hcase:(∃ v k C,Hid (ShAt w2 X x b n v)/\Hid (w2.ownsRow (X+1) 31 16 v k C)/\Hid (TickR x t x k C))\/(∃ v,Hid (Sh0At w2 X x v)/\Hid (Out2 w2 X x t v)/\Hid (x.up=true/\x.has=true)):=by
  rcases HFI.out with ⟨h1,h2⟩ | ⟨h1,h2,v,h3,h4⟩ | ⟨h1,h2,v,h3,h4⟩
  · exact .inl ⟨_,0,[],h2,World.ownsRow_nil _ _ _ _,.inr (.inl ⟨hK.out,h1,rfl,rfl,rfl⟩)⟩
  · exact .inl ⟨v,1,_,h3,h4,.inr (.inr (.inl ⟨hK.out,h1,h2,rfl,rfl,rfl⟩))⟩
  exact .inr ⟨v,h3,h4,h1,h2⟩
 have HA2:Hid (M.LksAt w2.drew b x.of.ls):=M.lks_below (M.lks_below HA.out hB2) (Below.refl _ _).drew;clear HFI;rcases hcase with ⟨v,k,C,hZ,hO,hTR⟩ | ⟨v,hZ,hO,huh⟩
 · go_wp2_with fail
   have q35:=hZ.out 35 _ rfl;have d35:w2.drew.cell? ⟨X,35,none⟩=some v:=by simpa using q35
   refine wp_region_held_drew (S:=(fun u=>u.cell? ⟨X,35,none⟩=some v)) kr_ ?_ fun hHeld=>?_
   · ((try dsimp only);go_keep)
   refine tq 1 hHeld ?_
   try simp only [qq]
   refine tq 2 hHeld ?_
   try simp only [qq]
   refine rq 0 fun K hK=>?_;go_simp;refine (M.c23 x (lzL++[v]) X b n w2.drew (fun j u h=>by simpa using hZ.out j u (by simpa using h)) (by simpa using hz2) HX.out.2.1.1 HA2.out hN).mono ?_;rintro e w3 ⟨⟨ao,c,rfl,hlk⟩,hb3⟩;have HLK:Hid (M.LkOwn w3 w2.heap.size ao x.of.ls):=hlk;clear hlk;have HB3:Hid (Below w2.heap.size w2 w3):=(Below.refl _ _).drew.trans hb3;have hB3:Below w.heap.size w w3:=bT hB2 HB3.out;have ZR3:=ZR2.below HB3.out om_;have fR3:=fR2.below HB3.out om_;have e35:w3.cell? ⟨X,35,none⟩=some v:=(HB3.out.cell (p:=⟨X,35,none⟩) hz2).trans q35;have HO3:Hid (w3.ownsRow (X+1) 31 16 v k C):=ownsRow_below hO.out HB3.out;have hSome:∀ i,i<((lhL x.no x.up x.has x.of ao c):List Value).length->(w3.cell? ⟨w.heap.size+1,0+i,none⟩).isSome=true:=fun i hi=>by
    have hz:i<((lkL 0 false false):List Value).length:=hi;rw [Nat.zero_add,ZR3 i _ (List.getElem?_eq_getElem hz)];rfl
   clear hb3
   go_wp2_with fail
   clear hHeld;refine hK.out _ _ ?_ fun hHeld=>?_
   · ((try dsimp only);go_keep)
   clear hK K
   try simp only [qq]
   refine rq 3 fun K hK=>?_;refine M.step_store_blk rfl 33 (.tmp 2) (.tmp 13) rfl (w.heap.size+1) 0 rfl (lhL x.no x.up x.has x.of ao c) rfl hSome fR3 (by simp [Value.oneCell']) kr_ rfl ?_;have G:M.BlkAt (M.fill w3 (w.heap.size+1) 0 (lhL x.no x.up x.has x.of ao c)) (w.heap.size+1) (lhL x.no x.up x.has x.of ao c):=ZR3.fill0 rfl;have hBE:Below w.heap.size w (M.fill w3 (w.heap.size+1) 0 (lhL x.no x.up x.has x.of ao c)):=M.below_fill om_ _ _ hB3;have g35:(M.fill w3 (w.heap.size+1) 0 (lhL x.no x.up x.has x.of ao c)).cell? ⟨X,35,none⟩=some v:=by
    have hbx:Below (w.heap.size+1) w3 (M.fill w3 (w.heap.size+1) 0 (lhL x.no x.up x.has x.of ao c)):=M.below_fill lr_ _ _ (Below.refl _ _);have hbk:But (w.heap.size+1) w3 (M.fill w3 (w.heap.size+1) 0 (lhL x.no x.up x.has x.of ao c)):=M.but_fill _ _ (But.refl _ _);exact (hbk.cell (p:=⟨X,35,none⟩) (Nat.lt_of_lt_of_le hz2 HB3.out.size) (by show X≠w.heap.size+1;omega)).trans e35
   have HOE:Hid ((M.fill w3 (w.heap.size+1) 0 (lhL x.no x.up x.has x.of ao c)).ownsRow w.heap.size 31 16 v k C):=owns_mono (ownsRow_keep HO3.out fun q hq=>by
    obtain ⟨hq1,cur,hc⟩:=own_block HO3.out hq;exact (M.but_fill _ _ (But.refl (w.heap.size+1) w3)).block q (blk_lt hc) om_) om_
   clear hHeld;refine hK.out _ _ ?_ fun hHeld=>?_
   · ((try dsimp only);go_keep)
   clear hK K
   try simp only [qq]
   refine tq 4 hHeld ?_
   try simp only [qq]
   refine wpAnyH_done kr_ ?_ _;clear hHeld;have HLE:Hid (M.LkOwn (M.fill w3 (w.heap.size+1) 0 (lhL x.no x.up x.has x.of ao c)) w.heap.size ao x.of.ls):=(M.lkown_fill (w.heap.size+1) _ om_ 0 HLK.out).mono om_;generalize (M.fill w3 (w.heap.size+1) 0 (lhL x.no x.up x.has x.of ao c))=E at*;go_wp2;refine bodyPost_ret (v:=.tuple #[.agg (lhA x.no x.up x.has x.of ao c),v]) (results_blk2 (P:=prog) (ty:=33) rfl _ E (w.heap.size+1) (lhL x.no x.up x.has x.of ao c) _ _ rfl rfl G underlying33 rfl kr_) rfl ⟨⟨x,k,C,ao,c,v,rfl,hTR.out,HLE.out,HOE.out⟩,hBE⟩
 go_wp2_with fail
 have q35:=hZ.out 35 _ rfl;have d35:w2.drew.cell? ⟨X,35,none⟩=some v:=by simpa using q35
 refine wp_region_held_drew (S:=(fun u=>u.cell? ⟨X,35,none⟩=some v)) kr_ ?_ fun hHeld=>?_
 · ((try dsimp only);go_keep)
 refine tq 1 hHeld ?_
 try simp only [qq]
 refine tq 2 hHeld ?_
 try simp only [qq]
 refine rq 0 fun K hK=>?_;go_simp;refine (M.c23z ⟨x.no,x.up,false,M.g16z⟩ (lzL++[v]) X w2.drew (fun j u h=>by have h':w2.cell? ⟨X,j,none⟩=some u:=hZ.out j u h;simpa using h') (by simpa using hz2)).mono ?_;rintro e w3 ⟨rfl,hb3⟩;have HB3:Hid (Below w2.heap.size w2 w3):=(Below.refl _ _).drew.trans hb3;have hB3:Below w.heap.size w w3:=bT hB2 HB3.out;have ZR3:=ZR2.below HB3.out om_;have fR3:=fR2.below HB3.out om_;have e35:w3.cell? ⟨X,35,none⟩=some v:=(HB3.out.cell (p:=⟨X,35,none⟩) hz2).trans q35;have HO3:Hid (w3.ownsRow (X+1) 31 16 v 2 ((loL x.no)++[.int .i64 2,.int .i64 0,.int .i64 x.no,.int .i64 x.of.ep,.int .i64 x.of.ed,.string x.of.km.nm,.string ⟨#[]⟩,.string ⟨#[]⟩,.slice none 0 0,.int .i64 x.of.ls.length,.bool t.over,.int .i64 t.code,.string t.text,.bool t.has,.string t.name,.int .i64 t.steps])):=ownsRow_below hO.out HB3.out;have hSome:∀ i,i<((lkL x.no x.up false):List Value).length->(w3.cell? ⟨w.heap.size+1,0+i,none⟩).isSome=true:=fun i hi=>by
  have hz:i<((lkL 0 false false):List Value).length:=hi;rw [Nat.zero_add,ZR3 i _ (List.getElem?_eq_getElem hz)];rfl
 clear hb3
 go_wp2_with fail
 clear hHeld;refine hK.out _ _ ?_ fun hHeld=>?_
 · ((try dsimp only);go_keep)
 clear hK K
 try simp only [qq]
 refine rq 3 fun K hK=>?_;refine M.step_store_blk rfl 33 (.tmp 2) (.tmp 13) rfl (w.heap.size+1) 0 rfl (lkL x.no x.up false) rfl hSome fR3 (by simp [Value.oneCell']) kr_ rfl ?_;have G:M.BlkAt (M.fill w3 (w.heap.size+1) 0 (lkL x.no x.up false)) (w.heap.size+1) (lkL x.no x.up false):=ZR3.fill0 rfl;have hBE:Below w.heap.size w (M.fill w3 (w.heap.size+1) 0 (lkL x.no x.up false)):=M.below_fill om_ _ _ hB3;have g35:(M.fill w3 (w.heap.size+1) 0 (lkL x.no x.up false)).cell? ⟨X,35,none⟩=some v:=by
  have hbx:Below (w.heap.size+1) w3 (M.fill w3 (w.heap.size+1) 0 (lkL x.no x.up false)):=M.below_fill lr_ _ _ (Below.refl _ _);have hbk:But (w.heap.size+1) w3 (M.fill w3 (w.heap.size+1) 0 (lkL x.no x.up false)):=M.but_fill _ _ (But.refl _ _);exact (hbk.cell (p:=⟨X,35,none⟩) (Nat.lt_of_lt_of_le hz2 HB3.out.size) (by show X≠w.heap.size+1;omega)).trans e35
 have HOE:Hid ((M.fill w3 (w.heap.size+1) 0 (lkL x.no x.up false)).ownsRow w.heap.size 31 16 v 2 ((loL x.no)++[.int .i64 2,.int .i64 0,.int .i64 x.no,.int .i64 x.of.ep,.int .i64 x.of.ed,.string x.of.km.nm,.string ⟨#[]⟩,.string ⟨#[]⟩,.slice none 0 0,.int .i64 x.of.ls.length,.bool t.over,.int .i64 t.code,.string t.text,.bool t.has,.string t.name,.int .i64 t.steps])):=owns_mono (ownsRow_keep HO3.out fun q hq=>by
  obtain ⟨hq1,cur,hc⟩:=own_block HO3.out hq;exact (M.but_fill _ _ (But.refl (w.heap.size+1) w3)).block q (blk_lt hc) om_) om_
 clear hHeld;refine hK.out _ _ ?_ fun hHeld=>?_
 · ((try dsimp only);go_keep)
 clear hK K
 try simp only [qq]
 refine tq 4 hHeld ?_
 try simp only [qq]
 refine wpAnyH_done kr_ ?_ _;clear hHeld;generalize (M.fill w3 (w.heap.size+1) 0 (lkL x.no x.up false))=E at*;go_wp2;refine bodyPost_ret (v:=.tuple #[.agg (lkA x.no x.up false),v]) (results_blk2 (P:=prog) (ty:=33) rfl _ E (w.heap.size+1) (lkL x.no x.up false) _ _ rfl rfl G underlying33 rfl kr_) rfl ⟨⟨⟨x.no,x.up,false,M.g16z⟩,2,_,none,0,v,rfl,.inr (.inr (.inr ⟨hK.out,huh.out.1,huh.out.2,rfl,rfl,rfl⟩)),⟨.inl rfl,.inl rfl⟩,HOE.out⟩,hBE⟩
end Go.Proofs.YthjhakdpikdoeaaGreatDoor
